"""How many steps runs make, and where they are behind very many of them, without going through each one."""

from millhands.books import check_web
from millhands.tables import EVER, Runs


class Counts:
    """The runs of a program, with the number of steps of each row that comes to an end, and where it stops."""

    def __init__(self, book, program):
        self.runs = Runs(book, program)
        self.steps = {}
        self.stops = {}
        for row, what in self.runs.whats.items():
            if what == EVER:
                continue
            rows = self.runs.next_rows(row)
            own = 0 if self.runs.steps[row][0] == "stops" else 1
            self.steps[row] = own + sum([self.steps[further] for further in rows])
            if what[0] == "stops":
                self.stops[row] = self.stops[rows[-1]] if rows else row[0]

    def next_spot(self, row):
        """The last row by which a row goes, behind how many steps it is there, and by how many letters it rises."""
        rows = self.runs.next_rows(row)
        rise = 1 if self.runs.steps[row][0] == "rises" and len(rows) == 1 else 0
        return rows[-1], 1 + sum([self.steps[further] for further in rows[:-1]]), rise

    def jumped(self, row, left, high):
        """As inside, for a row that goes on for ever: rounds of its ring are left out as long as steps are left."""
        spots, index = self.runs.track_from(row)
        moves = [self.next_spot(spot) for spot in spots]
        ahead = sum([many for _, many, _ in moves[:index]])
        around = sum([many for _, many, _ in moves[index:]])
        if left < ahead + around:
            return left, high
        rounds = (left - ahead) // around
        return left - rounds * around, high + rounds * sum([rise for _, _, rise in moves[index:]])

    def inside(self, row, left, high):
        """Where a run is that has some steps left, fewer than the row has, its web having high letters now.

        The triple of the place, the last letter and the number of letters.
        """
        while left > 0:
            further, many, rise = self.next_spot(row)
            if many <= left:
                row, left, high = further, left - many, high + rise
            else:
                # What comes first by this row takes longer: it lays a letter, which goes again later.
                row, left, high = self.runs.next_rows(row)[0], left - 1, high + 1
        return row[0], row[1], high


def steps_made(book, program, web):
    """How many steps the run of a program on a web makes, None if it goes on for ever."""
    counts = Counts(book, program)
    check_web(book.letters, web)
    many = 0
    place = 0
    for seen in list(web[::-1]) + [""]:
        what = counts.runs.whats[(place, seen)]
        if what == EVER:
            return None
        many += counts.steps[(place, seen)]
        if what[0] == "stops":
            return many
        place = what[1]
    return many


def after(book, program, web, t):
    """The place, the last letter and the number of letters behind t steps of a run, or behind its last step."""
    counts = Counts(book, program)
    check_web(book.letters, web)
    place = 0
    high = len(web)
    for seen in list(web[::-1]) + [""]:
        row = (place, seen)
        what = counts.runs.whats[row]
        if what == EVER:
            left, high = counts.jumped(row, t, high)
            return counts.inside(row, left, high)
        if t < counts.steps[row]:
            return counts.inside(row, t, high)
        if what[0] == "stops":
            return counts.stops[row], what[1][-1:], high - len(seen) + len(what[1])
        t -= counts.steps[row]
        place = what[1]
        high -= 1
    return place, "", high
