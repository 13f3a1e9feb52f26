"""[4.2] to [4.4] as far as the interface of sheds tells them, beside all orders gone through one by one."""

import unittest

from millhands.errors import BadWeb, TooMany
from millhands.fans import Fan
from millhands.items import do_wefts_pass
from millhands.logs import handed, joined_logs, orders, outcomes, taken_out, weft_of
from millhands.sheds import (certain_set, first_order, first_unsound, free_set, is_sound, shed, shed_on, sound_set)
from millhands.tellers import all_webs, is_end_set, is_within, lone_web, no_webs
from millhands.wefts import done
from tests.support import BOOKS, ONE, PAIRS, PLAIN, POP, seeded, some_book, some_log, some_web, webs_to
from tests.test_logs import T0, T1

T2 = ((0, False, (), ("x",)), (1, False, (), ("?-",)))


def left_by_hand(book, log, outcome, web):
    """What the orders of an outcome leave of a web, by the order."""
    found = {order: done(book, weft_of(log, order), web) for order in orders(log, outcome)}
    return {order: left for order, left in found.items() if left is not None}


def books_and_logs():
    random = seeded(90)
    for book in list(BOOKS) + [some_book(random, letters) for letters in ("a", "ab", "abc", "ab", "abc")]:
        for lots in (0, 1, 2, 3, 4):
            yield book, some_log(random, book.letters, lots, 8) if lots else ()


def webs_of(book):
    return webs_to(book.letters, 3)


class Sheds(unittest.TestCase):
    def test_examples(self):
        self.assertEqual(shed_on(PAIRS, T0, (0, 1), ""), ("ab", "ba"))
        self.assertEqual(shed_on(PAIRS, T0, (0, 1), "a"), ("aba", "b"))
        self.assertEqual(sound_set(PAIRS, T0), all_webs("ab"))
        self.assertIsNone(first_unsound(PAIRS, T0))
        self.assertEqual(certain_set(PAIRS, T0, (0, 1)), no_webs("ab"))
        self.assertEqual(sound_set(PAIRS, T1), all_webs("ab"))
        self.assertEqual(first_order(PAIRS, T1, (0, 1), "a"), (1, 0))
        self.assertEqual(first_order(PAIRS, T1, (0, 1), "b"), (0, 1))
        behind = (T1[0], (1, False, (0,), ("?a",)))
        self.assertFalse(is_sound(PAIRS, behind, "a"))
        self.assertTrue(is_sound(PAIRS, behind, "aa"))
        self.assertEqual(first_unsound(PAIRS, behind), "a")
        self.assertEqual(free_set(PAIRS, T1, 1), all_webs("ab"))
        self.assertEqual(sound_set(POP, T2), lone_web("abx", ""))
        self.assertEqual(shed(POP, T2, (1,)), Fan("abx", (("reads", ("",), 1, 1, 1), ("stops", ()))))
        self.assertEqual(sound_set(POP, taken_out(T2, 1)), all_webs("abx"))

    def test_joined_example(self):
        one, other = ((0, True, (), ("a", "?a")),), ((0, True, (), ("?-", "a")),)
        self.assertTrue(is_sound(PAIRS, one, "") and is_sound(PAIRS, other, ""))
        self.assertFalse(is_sound(PAIRS, joined_logs(one, other), ""))

    def test_sheds_beside_all_orders(self):
        for book, log in books_and_logs():
            for outcome in outcomes(log):
                fan = shed(book=book, log=log, outcome=outcome, most=100000)
                self.assertTrue(fan.is_least())
                certain = certain_set(book=book, log=log, outcome=outcome)
                self.assertTrue(certain.is_least() and is_end_set(certain))
                for web in webs_of(book):
                    left = left_by_hand(book, log, outcome, web)
                    wanted = tuple(sorted(set(left.values())))
                    self.assertEqual(fan.made(web), wanted)
                    self.assertEqual(shed_on(book=book, log=log, outcome=outcome, web=web), wanted)
                    self.assertEqual(first_order(book=book, log=log, outcome=outcome, web=web), min(left, default=None))
                    self.assertIs(certain.says(web), len(wanted) < 2)

    def test_sound_beside_all_orders(self):
        kinds = set()
        for book, log in books_and_logs():
            found = sound_set(book=book, log=log)
            self.assertTrue(found.is_least() and is_end_set(found))
            unsound = []
            for web in webs_of(book):
                wanted = all(left_by_hand(book, log, outcome, web) for outcome in outcomes(log))
                kinds.add(wanted)
                self.assertIs(found.says(web), wanted)
                self.assertIs(is_sound(book=book, log=log, web=web), wanted)
                unsound += [] if wanted else [web]
            first = first_unsound(book=book, log=log)
            self.assertTrue(first == unsound[0] if unsound else first is None or len(first) > 3)
        self.assertEqual(kinds, {True, False})

    def test_free_beside_all_orders(self):
        kinds = set()
        for book, log in books_and_logs():
            for lot in log:
                if lot[1]:
                    continue
                found = free_set(book=book, log=log, number=lot[0])
                self.assertTrue(found.is_least() and is_end_set(found))
                for web in webs_of(book):
                    wanted = all(shed_on(book, log, outcome, web)
                                 == shed_on(book, log, tuple(sorted((*outcome, lot[0]))), web)
                                 for outcome in outcomes(log) if lot[0] not in outcome)
                    kinds.add(wanted)
                    self.assertIs(found.says(web), wanted)
        self.assertEqual(kinds, {True, False})

    def test_empty_log(self):
        for book in BOOKS:
            self.assertEqual(shed(book, (), ()), Fan(book.letters, (("stops", ("",)),)))
            self.assertEqual(shed_on(book, (), (), "a"), ("a",))
            self.assertEqual(first_order(book, (), (), "a"), ())
            self.assertTrue(is_sound(book, (), "a"))
            self.assertEqual(sound_set(book, ()), all_webs(book.letters))
            self.assertEqual(certain_set(book, (), ()), all_webs(book.letters))

    def test_no_order_fits(self):
        log = ((0, True, (), ("?-",)), (1, True, (), ("?a",)))
        self.assertEqual(shed(PLAIN, log, (0, 1)), Fan("ab", (("stops", ()),)))
        self.assertEqual(shed_on(PLAIN, log, (0, 1), "a"), ())
        self.assertIsNone(first_order(PLAIN, log, (0, 1), "a"))
        self.assertEqual(sound_set(PLAIN, log), no_webs("ab"))
        self.assertEqual(certain_set(PLAIN, log, (0, 1)), all_webs("ab"))

    def test_guarantee(self):
        for book, log in books_and_logs():
            sound = sound_set(book, log)
            for lot in log:
                if not lot[1]:
                    self.assertTrue(is_within(sound, sound_set(book, handed(log, lot[0]))))
                    self.assertTrue(is_within(sound, sound_set(book, taken_out(log, lot[0]))))
            if all(do_wefts_pass(book, "forward", one[3], other[3]) for one in log for other in log if one != other):
                for outcome in outcomes(log):
                    self.assertEqual(certain_set(book, log, outcome), all_webs(book.letters))

    def test_most(self):
        for book, log in books_and_logs():
            outcome = outcomes(log)[-1]
            fan = shed(book, log, outcome, most=100000)
            self.assertEqual(shed(book, log, outcome, most=len(fan)), fan)
            with self.assertRaises(TooMany) as caught:
                shed(book, log, outcome, most=len(fan) - 1)
            self.assertEqual(caught.exception.most, len(fan) - 1)

    def test_wrong_webs(self):
        for thing in ("c", None, ("a",), 0, True, ["a"], PLAIN):
            for call in (lambda web: shed_on(PLAIN, T0, (0, 1), web), lambda web: first_order(PLAIN, T0, (0, 1), web),
                         lambda web: is_sound(PLAIN, T0, web)):
                with self.assertRaises(BadWeb) as caught:
                    call(thing)
                self.assertIs(caught.exception.thing, thing)

    def test_limits(self):
        random = seeded(91)
        lays = {"a": ("a", "a"), "ab": ("a", "b"), "abx": ("a", "x")}
        for book in (ONE, PAIRS, PLAIN, POP):
            one, other = lays[book.letters]
            logs = [((0, False, (), (one, "?" + one, other)), (1, True, (), ("?" + other, other)),
                     (2, False, (0,), (other, "?-")), (3, False, (), ("?" + one,))),
                    ((0, False, (), (one, other)), (1, True, (), (other, one)), (2, False, (), ("?-", "?" + one)),
                     (3, False, (), ("?" + other, "?" + one)))]
            if len(book) < 3:
                logs.append(((0, False, (), (one, other)), (1, False, (), (other, "?" + one)),
                             (2, False, (), ("?" + other, one)), (3, True, (), ("?-", other))))
            for log in logs:
                for outcome in outcomes(log):
                    fan = shed(book, log, outcome, most=100000)
                    certain = certain_set(book, log, outcome)
                    for _ in range(3):
                        web = some_web(random, book.letters, 60)
                        self.assertEqual(fan.made(web), shed_on(book, log, outcome, web))
                        self.assertIs(certain.says(web), len(fan.made(web)) < 2)
                sound = sound_set(book, log)
                for web in (some_web(random, book.letters, 60), book.letters[0] * 60, ""):
                    self.assertIs(sound.says(web), is_sound(book, log, web))
                self.assertTrue(is_end_set(free_set(book, log, 0)))
