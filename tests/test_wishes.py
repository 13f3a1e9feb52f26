"""[5.1], [5.2]: wishes, their items and others, and releases."""

import unittest

from millhands.errors import BadWish
from millhands.logs import handed, is_log, taken_out
from millhands.wishes import (is_release, is_release_within, is_wish, items_of_wish, others_of, released, releases_of)
from tests.support import WRONG, altered, raised, seeded, some_log
from tests.test_logs import GAPS, T0, T1

KEEPER = ((0, False, (), ()), (1, False, (0,), ("?-",)))


def logs():
    random = seeded(220)
    yield from [T0, T1, GAPS, KEEPER]
    for lots in (1, 2, 3, 4):
        for _ in range(8):
            yield some_log(random, "ab", lots, 8)


def still_open(log):
    return [lot[0] for lot in log if not lot[1]]


class Wishes(unittest.TestCase):
    def test_is_wish(self):
        for log in logs():
            for number in range(13):
                for deed in ("a", "b", "?", "x", "?a", "-", "", "ab", None, 0):
                    wanted = number in still_open(log) and deed in ("a", "b", "?")
                    self.assertIs(is_wish(letters="ab", log=log, thing=(number, deed)), wanted)

    def test_wrong_wishes(self):
        for thing in WRONG:
            self.assertIs(is_wish("ab", T0, thing), False)
            if repr(thing) not in ("'a'", "'?'", "0", "1"):
                self.assertIs(is_wish("ab", T0, (0, thing)), False)
                self.assertIs(is_wish("ab", T0, (thing, "a")), False)
            self.assertIs(raised(BadWish, lambda: items_of_wish("ab", T0, thing)).thing, thing)
        for thing in (("0", "a"), (0, "a", "a"), [0, "a"], (False, "a"), (True, "a"), (0.0, "a"), (0, ["a"]), (0, ("a",))):
            self.assertIs(is_wish("ab", T0, thing), False)
        for thing in altered((0, "a")):
            wanted = isinstance(thing, tuple) and repr(thing) in ("(0, 'a')", "(1, 'a')")
            self.assertIs(is_wish("ab", T0, thing), wanted)
        self.assertIs(is_wish("ab", (), (0, "a")), False)

    def test_items(self):
        self.assertEqual(items_of_wish("ab", T0, (0, "a")), ("a",))
        self.assertEqual(items_of_wish(letters="abx", log=T0, wish=(1, "?")), ("?-", "?a", "?b", "?x"))
        self.assertEqual(raised(BadWish, lambda: items_of_wish("ab", T1, (0, "a"))).thing, (0, "a"))

    def test_others(self):
        self.assertEqual(others_of(GAPS, 9), (2, 11))
        self.assertEqual(others_of(log=T1, number=1), ())
        for log in logs():
            for number in still_open(log):
                self.assertEqual(others_of(log, number), tuple(sorted(set(still_open(log)) - {number})))

    def test_releases(self):
        self.assertEqual(releases_of(KEEPER, 0), (((), ()), ((), (1,)), ((1,), ())))
        self.assertEqual(releases_of(T1, 1), (((), ()),))
        for log in logs():
            for number in still_open(log):
                found = releases_of(log=log, number=number)
                self.assertEqual(found, tuple(sorted(set(found))))
                self.assertEqual(len(found), 3 ** len(others_of(log, number)))
                for release in found:
                    self.assertIs(is_release(log=log, number=number, thing=release), True)

    def test_wrong_releases(self):
        for thing in WRONG:
            if thing != ((), ()):
                self.assertIs(is_release(GAPS, 9, thing), False)
            if thing != ():
                self.assertIs(is_release(GAPS, 9, (thing, ())), False)
                self.assertIs(is_release(GAPS, 9, ((), thing)), False)
        for thing in (((9,), ()), ((5,), ()), ((2,), (2,)), ((11, 2), ()), ((2, 2), ()), ((2.0,), ()), ((2,),),
                      ((2,), (), ()), [(2,), ()], ((True,), ())):
            self.assertIs(is_release(GAPS, 9, thing), False)
        known = [repr(release) for release in releases_of(GAPS, 9)]
        for release in releases_of(GAPS, 9):
            for thing in altered(release):
                self.assertIs(is_release(GAPS, 9, thing), repr(thing) in known)

    def test_released(self):
        self.assertEqual(released(KEEPER, ((), (1,))), ((0, False, (), ()),))
        self.assertEqual(released(GAPS, ((2,), (9,))), ((2, True, (), ("a",)), (5, True, (2,), ("?a", "b")),
                                                       (11, False, (), ("b",))))
        for log in logs():
            for number in still_open(log):
                for release in releases_of(log, number):
                    found = released(log=log, release=release)
                    self.assertTrue(is_log("ab", found))
                    wanted = log
                    for gone in release[1]:
                        wanted = taken_out(wanted, gone)
                    for other in release[0]:
                        wanted = handed(wanted, other)
                    self.assertEqual(found, wanted)

    def test_within(self):
        releases = releases_of(GAPS, 9)
        for one in releases:
            for other in releases:
                wanted = set(one[0]) <= set(other[0]) and set(one[1]) <= set(other[1])
                self.assertIs(is_release_within(release=one, other=other), wanted)
        self.assertIs(is_release_within(((2,), ()), ((), (2,))), False)


if __name__ == "__main__":
    unittest.main()
