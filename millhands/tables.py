"""Tables of programs: what comes of each place with each last letter, whatever is beneath it."""

from millhands.books import check_web
from millhands.helpers import are_same, check_same_letters, is_number
from millhands.ledsets import domain, first_apart
from millhands.programs import place_seen
from millhands.readers import Reader
from millhands.tellers import all_webs, but_not, first_web

EVER = ("ever",)


class Runs:
    """The runs of a program, told by rows: a place, and the last letter that is seen there, or "" for a bare web.

    steps tells what the deed of each row does; whats has what comes of the rows, in an order in
    which each row that comes to an end stands behind those by which it goes.
    """

    def __init__(self, book, program):
        check_same_letters(book.letters, [program.letters])
        self.letters = book.letters
        rows = [(place, seen) for place in range(len(program.deeds)) for seen in ("", *book.letters)]
        self.steps = {row: step_from(book, program, row) for row in rows}
        self.whats = {}
        many = -1
        while many < len(self.whats):
            many = len(self.whats)
            for row in rows[::-1]:
                what = None if row in self.whats else self.what_told(row)
                if what is not None:
                    self.whats[row] = what
        # Whatever never comes to an end by what is known goes on for ever.
        for row in rows:
            self.whats.setdefault(row, EVER)

    def next_rows(self, row):
        """The rows by which a row goes; as long as nothing is known of a first one, this alone."""
        word, to = self.steps[row]
        if word == "on":
            return [to]
        if word != "rises":
            return []
        what = self.whats.get(to, EVER)
        return [to, (what[1], row[1])] if what[0] == "beneath" else [to]

    def what_told(self, row):
        """What comes of a row, None if nothing is known yet of a row by which it goes."""
        word, to = self.steps[row]
        if word == "stops":
            return ("stops", row[1])
        if word == "beneath":
            return ("beneath", to)
        rows = self.next_rows(row)
        what = self.whats.get(rows[-1])
        if what is not None and what[0] == "stops" and word == "rises" and len(rows) == 1:
            return ("stops", row[1] + what[1])
        return what

    def rises(self, row):
        """Whether a row that goes on for ever lays a letter that stands for ever."""
        return self.steps[row][0] == "rises" and len(self.next_rows(row)) == 1

    def track_from(self, row):
        """The spots of a row that goes on for ever, and the index of the one to which they come round."""
        spots = []
        while row not in spots:
            spots.append(row)
            row = self.next_rows(row)[-1]
        return tuple(spots), spots.index(row)

    def climbs(self, row):
        """Whether a row goes on for ever, and its web grows for ever."""
        if self.whats[row] != EVER:
            return False
        spots, index = self.track_from(row)
        return any([self.rises(spot) for spot in spots[index:]])

    def least_reader(self):
        """The least reader of what the program makes: a node for each place, and behind them those that stop."""
        nodes = []
        stops = []
        many = len(self.steps) // (len(self.letters) + 1)
        for place in range(many):
            bare = self.whats[(place, "")]
            numbers = []
            for letter in self.letters:
                what = self.whats[(place, letter)]
                if what[0] != "beneath":
                    stops.append(what if what[0] == "stops" else ("none",))
                numbers.append(what[1] if what[0] == "beneath" else many + len(stops) - 1)
            nodes.append(("reads", bare[1] if bare[0] == "stops" else None, *numbers))
        return Reader(self.letters, tuple(nodes + stops)).least()


def step_from(book, program, row):
    """What the deed of a row does: a word, and a row or a place.

    "stops"; "on", with the row at which it goes on, nothing being put on or taken away; "beneath",
    where both letters go; "rises", with the row of a letter that stands on what was seen.
    """
    deed = program.deeds[row[0]]
    if deed[0] == "stop":
        return ("stops", None)
    if deed[0] == "look":
        return ("on", (place_seen(book.letters, deed[1], row[1]), row[1]))
    left = book.left_of(row[1], deed[1])
    if left is None:
        return ("rises", (deed[2], deed[1]))
    return ("on", (deed[2], left)) if left else ("beneath", deed[2])


def table_of(book, program):
    """The table of a program: the ascending tuple of all rows (place, seen, what)."""
    return rows_told(Runs(book, program).whats)


def rows_told(whats):
    return tuple([(*row, whats[row]) for row in sorted(whats)])


def table_paper(book, program):
    """Any paper of the table of a program."""
    whats = Runs(book, program).whats
    ranks = {row: -1 if what == EVER else rank for rank, (row, what) in enumerate(whats.items())}
    return tuple([(*row, whats[row], ranks[row]) for row in sorted(whats)])


def table_holds(book, program, thing):
    """Whether any value is a paper of the table of a program."""
    runs = Runs(book, program)
    table = rows_told(runs.whats)
    if not isinstance(thing, tuple) or len(thing) != len(table):
        return False
    ranks = {}
    for row, told_row in zip(table, thing):
        if not isinstance(told_row, tuple) or len(told_row) != 4 or not are_same(told_row[:3], row):
            return False
        if not is_number(told_row[3]):
            return False
        ranks[row[:2]] = told_row[3]
    return all([is_ranked(runs, row, ranks) for row in ranks])


def is_ranked(runs, row, ranks):
    """Whether the rank of a row is as its kind and the rows by which it goes ask for."""
    if runs.whats[row] == EVER:
        return ranks[row] == -1
    return ranks[row] >= 0 and all([ranks[further] < ranks[row] for further in runs.next_rows(row)])


def does_stop(book, program, web):
    """Whether the run of a program on a web stops."""
    return web_left(book, program, web) is not None


def web_left(book, program, web):
    """The web that a program leaves of a web, None if its run goes on for ever."""
    runs = Runs(book, program)
    check_web(book.letters, web)
    row, left = row_at_end(runs, web)
    what = runs.whats[row]
    return web[:left] + what[1] if what[0] == "stops" else None


def row_at_end(runs, web):
    """The first row on a web that does not come out beneath, and how many letters there are beneath what it sees."""
    place = 0
    for left in reversed(range(len(web))):
        what = runs.whats[(place, web[left])]
        if what[0] != "beneath":
            return (place, web[left]), left
        place = what[1]
    return (place, ""), 0


def track(book, program, place, seen):
    """The spots of a row that goes on for ever, and the index to which they come round; None for another row."""
    runs = Runs(book, program)
    return runs.track_from((place, seen)) if runs.whats[(place, seen)] == EVER else None


def does_climb(book, program, place, seen):
    """Whether a row goes on for ever, and its web grows for ever."""
    return Runs(book, program).climbs((place, seen))


def program_reader(book, program):
    """The least reader of what a program makes of each web."""
    return Runs(book, program).least_reader()


def stops_where(book, program):
    """The least end set of the webs on which a program stops."""
    return domain(program_reader(book, program))


def first_endless(book, program):
    """The first web on which a program goes on for ever, None if there is none."""
    return first_web(but_not(all_webs(book.letters), stops_where(book, program)))


def greatest_growth(book, program):
    """The greatest number of letters by which a web that is left is longer than the one at first, perhaps below 0.

    None if the program stops on no web. Each letter that is read takes one away, so no way by a
    ring is the best one.
    """
    nodes = program_reader(book, program).nodes
    best = [len(node[1]) if node[0] != "none" and node[1] is not None else None for node in nodes]
    for _ in nodes:
        best = [max_of([held] + [less_one(best[to]) for to in node[2:]]) for held, node in zip(best, nodes)]
    return best[0]


def less_one(number):
    return None if number is None else number - 1


def max_of(numbers):
    """The greatest one of the numbers that there are, None if there is none."""
    return max([number for number in numbers if number is not None], default=None)


def are_programs_alike(book, one, other):
    """Whether two programs make the same of each web."""
    check_same_letters(book.letters, [one.letters, other.letters])
    return program_reader(book, one) == program_reader(book, other)


def first_unlike(book, one, other):
    """The first web of which two programs do not make the same, None if there is none."""
    check_same_letters(book.letters, [one.letters, other.letters])
    return first_apart(program_reader(book, one), program_reader(book, other))
