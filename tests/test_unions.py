"""Least end sets of machines many places of which are gone through at once, beside all sets of places one by one."""

import unittest

from millhands.errors import TooMany
from millhands.tellers import all_webs, no_webs, told
from millhands.unions import does_follow, least_union
from tests.support import raised, seeded


def places_of(bits):
    return tuple([place for place in range(bits.bit_length()) if bits >> place & 1])


def by_sets(letters, moves, ends, start):
    """The least end set, each set of places that comes up being a state of its own."""

    def look(places):
        rows = [{further for place in places for further in places_of(row[place])} for row in moves]
        return any(ends >> place & 1 for place in places), tuple(tuple(sorted(row)) for row in rows)

    return told(letters, places_of(start), look)


def some_machine(random):
    letters = "abc"[:random.randint(1, 3)]
    many = random.randint(1, 8)
    dense = random.choice([0.1, 0.2, 0.3])

    def some_places(share):
        return sum([1 << place for place in range(many) if random.random() < share])

    moves = [[some_places(dense) for _ in range(many)] for _ in letters]
    ends = some_places(0.3)
    whole = 0
    if random.random() < 0.5:
        whole = 1 << random.randrange(many)
        ends |= whole
        for row in moves:
            row[whole.bit_length() - 1] = whole
    return letters, moves, ends, whole, some_places(0.3)


class Unions(unittest.TestCase):
    def test_least_union(self):
        random = seeded(1300)
        for _ in range(600):
            letters, moves, ends, whole, start = some_machine(random)
            asked = by_sets(letters, moves, ends, start)
            self.assertEqual(least_union(letters, moves, ends, whole, start, None), asked)
            self.assertEqual(least_union(letters, moves, ends, whole, start, len(asked)), asked)
            raised(TooMany, lambda: least_union(letters, moves, ends, whole, start, len(asked) - 1))

    def test_no_places(self):
        self.assertEqual(least_union("ab", [[], []], 0, 0, 0, 1), no_webs("ab"))

    def test_sets_that_are_alike_by_one_place(self):
        # Places 1 to 24 count the letters behind each b, so 2 ** 24 sets come up; place 25 reads all webs beside them.
        counted = [1 << place + 1 for place in range(1, 24)]
        moves = [[1, *counted, 0, 1 << 25], [1 | 2, *counted, 0, 1 << 25]]
        found = least_union("ab", moves, 1 << 24 | 1 << 25, 0, 1 | 1 << 25, 400)
        self.assertEqual(found, all_webs("ab"))

    def test_does_follow(self):
        self.assertTrue(does_follow(0, 0, []))
        self.assertTrue(does_follow(5, 5, []))
        self.assertFalse(does_follow(5, 4, []))
        self.assertTrue(does_follow(5, 4, [(4, 1)]))
        self.assertTrue(does_follow(5, 4, [(1, 4)]))
        self.assertTrue(does_follow(9, 4, [(2, 8), (4, 3)]))
        self.assertFalse(does_follow(9, 4, [(2, 8), (6, 3)]))


if __name__ == "__main__":
    unittest.main()
