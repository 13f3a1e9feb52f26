"""Rows that undo what a reader has done, or mend a day without some of its lots."""

from millhands.books import is_web, led
from millhands.helpers import are_same, check_same_letters, is_paper
from millhands.ledsets import alike_set, domain
from millhands.opposites import are_merged
from millhands.passing import asked_ends
from millhands.readers import joined, unchanged
from millhands.takingback import day_reader, first_staying, rest_of
from millhands.tellers import both, but_not, first_web
from millhands.wefts import reader_of


class Leading:
    """Rows that, laid on what a reader makes, have to lead to what another one makes, on all webs of an end set.

    Webs on which a row has failed are kept, each with what both readers make of it: on one of
    them most further rows fail, too.
    """

    def __init__(self, book, reader, wanted, ends):
        self.book = book
        self.reader = reader
        self.wanted = wanted
        self.asked = both(asked_ends(book, ends), domain(reader))
        self.failed = []

    def failing_web(self, row):
        """Any web on which a row does not lead to what is wanted, None if there is none."""
        for web, made, wanted in self.failed:
            if led(self.book, made, row) != wanted:
                return web
        behind = joined(self.reader, reader_of(self.book, tuple(row)))
        web = first_web(but_not(self.asked, alike_set(behind, self.wanted)))
        if web is not None:
            self.failed.append((web, self.reader.made(web), self.wanted.made(web)))
        return web

    def first_row(self, most):
        """The first row of at most so many letters that leads to what is wanted, None if there is none."""
        for row in rows_to(self.book.letters, most):
            if self.failing_web(row) is None:
                return row
        return None


def rows_to(letters, most):
    """All rows of at most so many letters, in order."""
    rows = [""]
    level = [""]
    for _ in range(most):
        level = [row + letter for row in level for letter in letters]
        rows.extend(level)
    return rows


def undoing(book, reader, ends):
    """What has to be led back to the webs that were."""
    check_same_letters(book.letters, [reader.letters] if ends is None else [reader.letters, ends.letters])
    return Leading(book, reader, unchanged(book.letters), ends)


def does_undo(book, reader, row, *, ends=None):
    """Whether a row undoes a reader on an end set."""
    return undoing(book, reader, ends).failing_web(row) is None


def undoing_row(book, reader, most, *, ends=None):
    """The first row of at most most letters that undoes a reader on an end set, None if there is none."""
    return undoing(book, reader, ends).first_row(most)


def judge_undoing(book, reader, most, *, ends=None):
    """A paper with the first row that undoes a reader, or with a web for each row on which it does not."""
    leading = undoing(book, reader, ends)
    rows = []
    for row in rows_to(book.letters, most):
        web = leading.failing_web(row)
        if web is None:
            return ("undone", row)
        rows.append((row, web))
    return ("none", tuple(rows))


def undoing_holds(book, reader, most, thing, *, ends=None):
    """Whether any value is a paper that a row undoes a reader, that none does, or that webs are left as one."""
    leading = undoing(book, reader, ends)
    if is_paper(thing, "undone", 2):
        return is_web(book.letters, thing[1]) and len(thing[1]) <= most and leading.failing_web(thing[1]) is None
    if is_paper(thing, "merged", 3):
        if not are_merged(reader, thing[1], thing[2]):
            return False
        return leading.asked.says(thing[1]) and leading.asked.says(thing[2])
    if not is_paper(thing, "none", 2) or not isinstance(thing[1], tuple):
        return False
    if not are_so_many(book.letters, most, len(thing[1])):
        return False
    return all([is_failing(leading, row, pair) for row, pair in zip(rows_to(book.letters, most), thing[1])])


def are_so_many(letters, most, many):
    """Whether there are just so many rows of at most most letters; of very long ones they are not gone through."""
    level = 1
    for _ in range(most):
        many -= level
        if many <= 0:
            return False
        level *= len(letters)
    return many == level


def is_failing(leading, row, thing):
    """Whether any value is a pair of a row and a web asked about on which it does not undo what was done."""
    if not isinstance(thing, tuple) or len(thing) != 2 or not are_same(thing[0], row):
        return False
    if not is_web(leading.book.letters, thing[1]) or not leading.asked.says(thing[1]):
        return False
    return led(leading.book, leading.reader.made(thing[1]), row) != thing[1]


def mending_row(book, day, numbers, most, *, ends=None):
    """The first row of at most most letters that mends a day without some lots, None if there is none."""
    # Where the rest does not fit no row helps.
    if first_staying(book, day, numbers, ends) is not None:
        return None
    rest = day_reader(book, rest_of(day, numbers))
    return Leading(book, day_reader(book, day), rest, ends).first_row(most)
