"""[7.1]: days, their rests, and lots that can go, beside single webs."""

import unittest
from itertools import combinations

from millhands.errors import OtherLetters
from millhands.takingback import (can_lots_go, day_reader, going_set, going_with, is_day, judge_lots, lots_hold,
                                  needed_by_nobody, rest_of)
from millhands.tellers import Teller, all_webs, both, but_not, ending, is_end_set, is_within, lone_web, no_webs
from millhands.wefts import done, reader_of
from tests.support import (BOOKS, PAIRS, PLAIN, POP, WRONG, X, altered, raised, seeded, some_book, some_ends, some_weft,
                           webs_to)

DAY = (("a",), ("?a", "x"), ("a",))


def cases():
    random = seeded(340)
    yield random, POP, DAY, None
    for book in list(BOOKS) + [some_book(random, letters) for letters in ("a", "ab", "abc", "ab", "abc")]:
        for lots in (0, 1, 2, 3, 4):
            day = tuple(some_weft(random, book.letters, 2) for _ in range(lots))
            for ends in (None, some_ends(random, book.letters, 4), no_webs(book.letters), all_webs(book.letters)):
                yield random, book, day, ends


def parts(day):
    return [some for many in range(len(day) + 1) for some in combinations(range(len(day)), many)]


def can_go(book, day, numbers, web):
    whole = tuple(item for weft in day for item in weft)
    rest = tuple(item for at, weft in enumerate(day) if at not in numbers for item in weft)
    return done(book, whole, web) is None or done(book, rest, web) is not None


def short_webs(book, ends):
    return [web for web in webs_to(book.letters, 5 if len(book) < 3 else 3) if ends is None or ends.says(web)]


class TakingBack(unittest.TestCase):
    def test_examples(self):
        self.assertEqual(judge_lots(POP, DAY, (0,)), ("stays", ""))
        self.assertEqual(going_with(POP, DAY, 0), ((0, 1),))
        self.assertEqual(needed_by_nobody(POP, DAY), (1, 2))

    def test_is_day(self):
        for _, book, day, _ in cases():
            self.assertIs(is_day(book=book, thing=day), True)
        for thing in WRONG:
            self.assertIs(is_day(POP, thing), thing in ((), ((),), ((), ())) and isinstance(thing, tuple))
            self.assertIs(is_day(POP, (("a",), thing)), thing in ((), ("a",)) and isinstance(thing, tuple))
        for thing in ((("a",), ("c",)), (("a",), ["a"]), [("a",)], (("a", "?"),), ("a",), (("?a", "ab"),)):
            self.assertIs(is_day(POP, thing), False)

    def test_readers_and_rests(self):
        for _, book, day, _ in cases():
            self.assertEqual(day_reader(book=book, day=day), reader_of(book, tuple(item for weft in day for item in weft)))
            self.assertEqual(rest_of(day=day, numbers=()), day)
            for numbers in parts(day):
                self.assertEqual(rest_of(day, numbers), tuple(day[at] for at in range(len(day)) if at not in numbers))

    def test_beside_single_webs(self):
        kinds = set()
        for _, book, day, ends in cases():
            for numbers in parts(day):
                ok = {web: can_go(book, day, numbers, web) for web in short_webs(book, None)}
                going = going_set(book=book, day=day, numbers=numbers)
                self.assertTrue(is_end_set(going) and going.is_least())
                self.assertEqual({web: going.says(web) for web in ok}, ok)
                stays = [web for web in short_webs(book, ends) if not ok[web]]
                paper = judge_lots(book=book, day=day, numbers=numbers, ends=ends)
                kinds.add(paper[0])
                self.assertIs(can_lots_go(book=book, day=day, numbers=numbers, ends=ends), paper[0] == "goes")
                self.assertIs(lots_hold(book=book, day=day, numbers=numbers, thing=paper, ends=ends), True)
                if paper[0] == "goes":
                    self.assertEqual(stays, [])
                    self.assertTrue(is_within(ends or all_webs(book.letters), paper[1]))
                else:
                    self.assertTrue(paper[1] == stays[0] if stays else len(paper[1]) > 3)
                for web in short_webs(book, None)[:20]:
                    wanted = not ok[web] and (ends is None or ends.says(web))
                    self.assertIs(lots_hold(book, day, numbers, ("stays", web), ends=ends), wanted)
        self.assertEqual(kinds, {"goes", "stays"})

    def test_least_sets(self):
        for _, book, day, ends in cases():
            go = [numbers for numbers in parts(day) if can_lots_go(book, day, numbers, ends=ends)]
            self.assertIn((), go)
            self.assertEqual(needed_by_nobody(book=book, day=day, ends=ends),
                             tuple(number for number in range(len(day)) if (number,) in go))
            for number in range(len(day)):
                with_it = [numbers for numbers in go if number in numbers]
                self.assertIn(tuple(range(number, len(day))), with_it)
                least = [numbers for numbers in with_it if not any(set(other) < set(numbers) for other in with_it)]
                self.assertEqual(going_with(book=book, day=day, number=number, ends=ends), tuple(sorted(least)))

    def test_papers_made_by_hand(self):
        """Any end set is right that has all webs asked about, and none on which the lots cannot go."""
        kinds = set()
        for random, book, day, ends in cases():
            asked = ends or all_webs(book.letters)
            for numbers in parts(day)[:6]:
                going = going_set(book, day, numbers)
                for teller in (going, both(going, asked), some_ends(random, book.letters, 4), asked,
                               both(going, some_ends(random, book.letters, 3)), no_webs(book.letters)):
                    wanted = is_within(asked, teller) and is_within(teller, going)
                    kinds.add(wanted)
                    self.assertIs(lots_hold(book, day, numbers, ("goes", teller), ends=ends), wanted)
        self.assertEqual(kinds, {True, False})
        # Not the least one.
        whole = Teller("abx", (("reads", True, 0, 1, 1), ("says", True)))
        self.assertTrue(lots_hold(POP, DAY, (1,), ("goes", whole)))
        self.assertFalse(lots_hold(POP, DAY, (0,), ("goes", whole)))
        self.assertTrue(lots_hold(POP, DAY, (0,), ("goes", ending("abx", "a")), ends=lone_web("abx", "ba")))
        self.assertFalse(lots_hold(POP, DAY, (0,), ("stays", ""), ends=lone_web("abx", "ba")))
        self.assertTrue(lots_hold(POP, DAY, (0,), ("stays", "b"), ends=but_not(all_webs("abx"), lone_web("abx", ""))))

    def test_wrong_values(self):
        for thing in WRONG:
            for paper in (thing, (thing, ""), ("stays", thing, ""), ("goes", all_webs("abx"), thing), [thing]):
                self.assertIs(lots_hold(POP, DAY, (0,), paper), False)
            self.assertIs(lots_hold(POP, DAY, (0,), ("stays", thing)), thing == "" and isinstance(thing, str))
            self.assertIs(lots_hold(POP, DAY, (1,), ("goes", thing)), False)
        for paper in (judge_lots(POP, DAY, (0,)), judge_lots(POP, DAY, (1,))):
            numbers = (0,) if paper[0] == "stays" else (1,)
            for thing in altered(paper):
                right = repr(thing) == repr(paper)
                self.assertIs(lots_hold(POP, DAY, numbers, thing), right, thing)
        for teller in (Teller("abx", (("says", "yes"),)), Teller("abx", (("says", ()),)), all_webs("ab"), X):
            self.assertIs(lots_hold(POP, DAY, (1,), ("goes", teller)), False)

    def test_other_letters(self):
        ends = all_webs("ab")
        for call in (lambda: can_lots_go(POP, DAY, (0,), ends=ends), lambda: going_with(POP, DAY, 0, ends=ends),
                     lambda: needed_by_nobody(POP, (), ends=ends), lambda: judge_lots(POP, DAY, (0,), ends=ends),
                     lambda: lots_hold(POP, DAY, (0,), None, ends=ends)):
            raised(OtherLetters, call)

    def test_fewer_and_more(self):
        """More lots may fail to go where fewer can, and fewer where more can."""
        day = (("a",), ("?a",))
        self.assertTrue(can_lots_go(PLAIN, day, (0, 1)))
        self.assertFalse(can_lots_go(PLAIN, day, (0,)))
        day = (("a",), ("a",), ("?-",))
        web = lone_web("ab", "")
        self.assertTrue(can_lots_go(PAIRS, day, (), ends=web) and can_lots_go(PAIRS, day, (0, 1), ends=web))
        self.assertFalse(can_lots_go(PAIRS, day, (1,), ends=web))


if __name__ == "__main__":
    unittest.main()
