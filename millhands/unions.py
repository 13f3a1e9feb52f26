"""Least end sets of machines many places of which are gone through at once: all that some of them read."""

from millhands.errors import TooMany
from millhands.tellers import Teller, least_told


class Unions:
    """Sets of places of a machine, each told by a number whose bits are the places, and what they read together.

    moves has for each letter a row with the places behind each place; whole are the places that
    read all webs. A test is the set of all places that read some web. Sets that no test tells
    apart are held to be alike, one of them, a head, standing for all; then this is proved, or
    further tests are found.
    """

    def __init__(self, moves, ends, whole):
        self.moves = moves
        self.whole = whole
        self.tests = []
        # Which tests each set meets, and the sets behind each one.
        self.marks = {}
        self.further = {}
        self.put_test(ends)

    def put_test(self, test):
        bit = 1 << len(self.tests)
        self.tests.append(test)
        self.marks = {places: marks | bit if places & test else marks for places, marks in self.marks.items()}

    def marks_of(self, places):
        """Which tests a set meets, as a number."""
        if places not in self.marks:
            self.marks[places] = sum([1 << at for at, test in enumerate(self.tests) if places & test])
        return self.marks[places]

    def nexts(self, places):
        """The tuple of the sets behind each letter; where some places read all webs these alone stand for a set."""
        if places not in self.further:
            rows = [places_behind(places, row) for row in self.moves]
            self.further[places] = tuple([row & self.whole or row for row in rows])
        return self.further[places]

    def test_ahead(self, test, at):
        """The test of the web that has a letter more at its end."""
        return sum([1 << place for place, further in enumerate(self.moves[at]) if further & test])

    def heads_from(self, start, most):
        """The heads from a start on, and for each of them the numbers of the heads behind it."""
        numbers = {self.marks_of(start): 0}
        heads = [start]
        rows = []
        while len(rows) < len(heads):
            row = []
            head = heads[len(rows)]
            for places in self.nexts(head):
                marks = self.marks_of(places)
                if marks not in numbers:
                    numbers[marks] = len(heads)
                    heads.append(places)
                row.append(numbers[marks])
            rows.append(tuple(row))
            # Heads are told apart by tests, so each of them is a node of the least end set.
            if most is not None and len(heads) > most:
                raise TooMany(most)
        return heads, rows

    def missing_tests(self, heads, rows):
        """Further tests by which sets are apart that are held to be alike; none if it is proved that all are alike.

        A pair is a set, the number of its head, and the pair and the letter behind which it came
        up. What comes behind each pair has to be held to be alike, too, or be so by all pairs.
        """
        held = {head: at for at, head in enumerate(heads)}
        pairs = []
        for head, row in zip(heads, rows):
            for places, to in zip(self.nexts(head), row):
                if places not in held:
                    held[places] = to
                    pairs.append((places, to, None, None))
        first = len(pairs)
        joins = [(places, heads[at]) for places, at, _, _ in pairs]
        tests = {}
        number = 0
        while number < len(pairs) and (number < first or not tests):
            places, at, _, _ = pairs[number]
            for letter, further in enumerate(self.nexts(places)):
                to = rows[at][letter]
                apart = 0 if held.get(further) == to else self.marks_of(further) ^ self.marks_of(heads[to])
                if apart:
                    self.note_tests(apart, letter, pairs, number, tests)
                elif further not in held and not are_joined(further, heads[to], joins):
                    held[further] = to
                    pairs.append((further, to, number, letter))
                    joins.append((further, heads[to]))
            number += 1
        return list(tests)

    def note_tests(self, apart, letter, pairs, number, tests):
        """Notes the tests that a pair calls for, behind which by a letter sets are apart, and those ahead of it."""
        test = self.tests[apart.bit_length() - 1]
        while number is not None:
            test = self.test_ahead(test, letter)
            tests[test] = True
            _, _, number, letter = pairs[number]


def places_behind(places, row):
    """The places behind some places."""
    found = 0
    while places:
        at = places.bit_length() - 1
        found |= row[at]
        places ^= 1 << at
    return found


def are_joined(one, other, joins):
    """Whether two sets are alike if both sets of each join are: what has all of one may have the other one, too."""
    return does_follow(other, one, joins) and does_follow(one, other, joins)


def does_follow(wanted, places, joins):
    """Whether a set, with all that makes no change if both sets of each join are alike, has all of a wanted one."""
    while wanted & ~places != 0:
        found = places
        left = []
        for one, other in joins:
            if one & ~found == 0 or other & ~found == 0:
                found |= one | other
            else:
                left.append((one, other))
        if found == places:
            return False
        places = found
        joins = left
    return True


def least_union(letters, moves, ends, whole, start, most):
    """The least end set of the webs that some of the places of a start read; ends are those that read the bare web.

    Raises TooMany if it has more than most nodes, None standing for no bound.
    """
    unions = Unions(moves, ends, whole)
    tests = [ends]
    while tests:
        heads, rows = unions.heads_from(start, most)
        tests = [test for test in unions.missing_tests(heads, rows) if test not in unions.tests]
        for test in tests:
            unions.put_test(test)
    nodes = [("reads", head & ends != 0, *row) for head, row in zip(heads, rows)]
    return Teller(letters, least_told(letters, tuple(nodes)))
