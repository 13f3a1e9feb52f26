"""What the files of the package share: classes of nodes, and machines that grow too great."""

import unittest

from millhands.errors import TooMany
from millhands.helpers import are_same, many_apart, refined
from millhands.tellers import told
from tests.support import seeded


def refined_by_hand(colors, nexts):
    """Classes told by going through all nodes again and again."""
    classes = colors
    while True:
        rows = [(color, tuple(classes[to] for to in row)) for color, row in zip(classes, nexts)]
        fresh = [rows.index(row) for row in rows]
        if len(set(fresh)) == len(set(classes)):
            return fresh
        classes = fresh


def first_places(classes):
    return [classes.index(held) for held in classes]


class Helpers(unittest.TestCase):
    def test_refined(self):
        random = seeded(110)
        for turn in range(300):
            many = random.randint(1, 40)
            near = turn % 2
            nexts = [tuple(min(many - 1, max(0, at + random.randint(-2, 2))) if near else random.randrange(many)
                           for _ in range(2)) for at in range(many)]
            colors = [int(random.random() < 0.1) for _ in range(many)]
            self.assertEqual(first_places(refined(colors, nexts)), refined_by_hand(colors, nexts))

    def test_many_states_and_few_nodes(self):
        """Far more states than nodes of the least machine: only these count for most."""
        for round_of in (1, 7, 30):
            def look(state):
                return state % round_of == 0, ((state + 1) % 2100, state)

            found = told("ab", 0, look, round_of)
            self.assertEqual(len(found), round_of)
            if round_of > 1:
                with self.assertRaises(TooMany) as caught:
                    told("ab", 0, look, round_of - 1)
                self.assertEqual(caught.exception.most, round_of - 1)

    def test_too_many_is_told_early(self):
        """A machine without end is left as soon as enough of its nodes are told apart."""
        def look(state):
            return state * state % 11 < state % 7, (2 * state + 1, 2 * state + 2)

        with self.assertRaises(TooMany) as caught:
            told("ab", 0, look, 20)
        self.assertEqual(caught.exception.most, 20)

    def test_apart_counts_only_what_is_known(self):
        nodes = [("reads", True, 1, 2), ("reads", False, 3, 4), ("says", True)]
        self.assertLessEqual(many_apart(nodes), 3)
        ring = [("reads", k == 0, (k + 1) % 50, k) for k in range(50)]
        self.assertEqual(many_apart(ring), 50)
        self.assertEqual(many_apart([("says", True), ("reads", True, 0, 1), ("reads", True, 2, 2)]), 1)

    def test_are_same(self):
        values = [(), (0,), (False,), ("",), ((0,),), ((), ()), 0, False, "", None, (None,), (0, 0), "a"]
        for one, left in enumerate(values):
            for other, right in enumerate(values):
                self.assertEqual(are_same(left, right), one == other)
        self.assertFalse(are_same([], ()))
