"""[4.1], [4.5] and the interface of logs."""

import unittest
from itertools import combinations, permutations

from millhands.logs import (handed, is_log, joined_logs, kept, orders, outcomes, taken_out, weft_of, with_item)
from tests.support import POP, WRONG, altered, seeded, some_log

T0 = ((0, False, (), ("a",)), (1, False, (), ("b",)))
T1 = ((0, True, (), ("a",)), (1, False, (), ("?a",)))
GAPS = ((2, False, (), ("a",)), (5, True, (2,), ("?a", "b")), (9, False, (2, 5), ()), (11, False, (9,), ("b",)))


def logs():
    random = seeded(80)
    yield from [(), T0, T1, GAPS]
    for lots in (1, 2, 3, 4):
        for _ in range(12):
            yield some_log(random, "ab", lots, 8)


class Logs(unittest.TestCase):
    def test_is_log(self):
        for log in logs():
            self.assertIs(is_log("ab", log), True)
            self.assertIs(is_log(letters="abx", thing=log), True)
        self.assertIs(is_log("a", T0), False)
        self.assertIs(is_log("ab", ((10 ** 30, True, (), ()),)), True)

    def test_wrong_logs(self):
        lot = (1, False, (), ("a",))
        for thing in WRONG:
            if thing != ():
                self.assertIs(is_log("ab", thing), False)
                self.assertIs(is_log("ab", (thing,)), False)
        for other in ((0, False, (), ("a",)), lot, (2, 0, (), ()), (2, None, (), ()), (True, False, (), ()),
                      (-1, False, (), ()), (2, False, [], ()), (2, False, (), []), (2, False, (), ("c",)),
                      (2, False, (0,), ()), (2, False, (2,), ()), (2, False, (3,), ()), (2, False, (1, 1), ()),
                      (2, False, (True,), ()), (2, False, ("1",), ()), (2, False, (-1,), ()), (2, False, ()),
                      (2, False, (), (), ()), [2, False, (), ()], ("2", False, (), ()), (2, False, (), "a"),
                      (2, False, (), ("",)), (None, False, (), ()), (2, False, 1, ())):
            self.assertIs(is_log("ab", (lot, other)), False, other)
        self.assertIs(is_log("ab", ((0, True, (), ()), lot, (2, False, (1, 0), ()))), False)
        self.assertIs(is_log("ab", [lot]), False)
        self.assertIs(is_log("ab", ((-1, True, (), ()),)), False)

    def test_altered_logs(self):
        for thing in altered(GAPS):
            if is_log("ab", thing):
                numbers = [lot[0] for lot in thing]
                self.assertEqual(numbers, sorted(set(numbers)))
                self.assertTrue(all(isinstance(lot[1], bool) for lot in thing))

    def test_outcomes(self):
        self.assertEqual(outcomes(T0), ((), (0,), (1,), (0, 1)))
        self.assertEqual(outcomes(()), ((),))
        self.assertEqual(outcomes(T1), ((0,), (0, 1)))
        self.assertEqual(outcomes(GAPS), ((5,), (2, 5), (5, 9), (5, 11), (2, 5, 9), (2, 5, 11), (5, 9, 11), (2, 5, 9, 11)))
        for log in logs():
            numbers = [lot[0] for lot in log]
            done = {lot[0] for lot in log if lot[1]}
            found = [some for many in range(len(log) + 1) for some in combinations(numbers, many) if done <= set(some)]
            self.assertEqual(outcomes(log=log), tuple(found))

    def test_orders(self):
        self.assertEqual(orders(T0, (0, 1)), ((0, 1), (1, 0)))
        self.assertEqual(orders((), ()), ((),))
        self.assertEqual(orders(GAPS, (2, 5, 9)), ((2, 5, 9),))
        # The lot 9 is not in the outcome: nothing keeps 11 behind 2 and 5.
        self.assertEqual(orders(GAPS, (2, 5, 11)), ((2, 5, 11), (2, 11, 5), (11, 2, 5)))
        for log in logs():
            earlier = {lot[0]: lot[2] for lot in log}
            for outcome in outcomes(log):
                found = [order for order in permutations(outcome)
                         if all(number not in order[order.index(lot):] or number == lot
                                for lot in order for number in earlier[lot])]
                self.assertEqual(orders(log=log, outcome=outcome), tuple(sorted(found)))
                self.assertIn(outcome, found)

    def test_wefts(self):
        self.assertEqual(weft_of(GAPS, (11, 2, 5)), ("b", "a", "?a", "b"))
        self.assertEqual(weft_of(log=GAPS, order=()), ())
        self.assertEqual(weft_of(GAPS, (9,)), ())

    def test_handed_and_taken_out(self):
        self.assertEqual(handed(log=T0, number=1), ((0, False, (), ("a",)), (1, True, (), ("b",))))
        self.assertEqual(taken_out(log=GAPS, number=2), ((5, True, (), ("?a", "b")), (9, False, (5,), ()),
                                                         (11, False, (9,), ("b",))))
        for log in logs():
            for lot in log:
                if not lot[1]:
                    self.assertTrue(is_log("ab", handed(log, lot[0])) and is_log("ab", taken_out(log, lot[0])))
                    without = [some for some in outcomes(log) if lot[0] not in some]
                    self.assertEqual(outcomes(taken_out(log, lot[0])), tuple(without))
                    self.assertEqual(outcomes(handed(log, lot[0])),
                                     tuple(some for some in outcomes(log) if lot[0] in some))

    def test_kept(self):
        self.assertEqual(kept(GAPS, (2, 9)), ((2, False, (), ("a",)), (9, False, (2,), ())))
        self.assertEqual(kept(log=GAPS, numbers=()), ())
        self.assertEqual(kept(GAPS, (2, 5, 9, 11)), GAPS)

    def test_with_item(self):
        self.assertEqual(with_item(log=T0, number=0, item="?b"), ((0, False, (), ("a", "?b")), T0[1]))
        self.assertEqual(with_item(GAPS, 9, "a")[2], (9, False, (2, 5), ("a",)))

    def test_joined(self):
        self.assertEqual(joined_logs(((0, False, (), ("?-",)),), ((0, False, (), ("a",)), (2, True, (0,), ("?a",)))),
                         ((0, False, (), ("?-",)), (1, False, (), ("a",)), (3, True, (1,), ("?a",))))
        self.assertEqual(joined_logs(one=(), other=GAPS), GAPS)
        self.assertEqual(joined_logs(GAPS, ()), GAPS)
        self.assertEqual([lot[0] for lot in joined_logs(GAPS, GAPS)], [2, 5, 9, 11, 14, 17, 21, 23])
        self.assertEqual(joined_logs(GAPS, GAPS)[6][2], (14, 17))
        for log in logs():
            self.assertTrue(is_log("ab", joined_logs(log, GAPS)) and is_log("ab", joined_logs(GAPS, log)))
        self.assertFalse(is_log("ab", POP))
