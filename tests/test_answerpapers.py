"""[5.4]: papers of the status of a wish, told ones and others that are right, beside single webs."""

import unittest
from itertools import combinations

from millhands.answerpapers import judge_status, row_status, status_holds
from millhands.answers import status, status_teller
from millhands.errors import BadWish, OtherLetters
from millhands.logs import handed, orders, outcomes, weft_of, with_item
from millhands.tellers import (Teller, all_webs, both, but_not, either, ending, first_web, is_end_set, is_within,
                               lone_web, no_webs)
from millhands.wefts import done
from millhands.wishes import items_of_wish, others_of
from tests.support import (BOOKS, PLAIN, WRONG, altered, raised, seeded, some_book, some_ends, some_log, some_web,
                           told_log, webs_to)
from tests.test_answers import LOOKER
from tests.test_wishes import KEEPER

BARE = lone_web("ab", "")
ROW = (BARE, ((), (0,), (1,), (0, 1)), (((0,), None),))


def cases():
    random = seeded(240)
    yield random, PLAIN, LOOKER, (1, "?"), all_webs("ab")
    yield random, PLAIN, KEEPER, (0, "a"), all_webs("ab")
    yield random, PLAIN, handed(KEEPER, 1), (0, "a"), all_webs("ab")
    for book in list(BOOKS) + [some_book(random, letters) for letters in ("a", "ab", "abc", "ab")]:
        for lots in (1, 2, 3, 4):
            web = some_web(random, book.letters, 2)
            for log in (told_log(random, book, web, lots, 4, 2), some_log(random, book.letters, lots, 4)):
                still = [lot[0] for lot in log if not lot[1]]
                if still:
                    ends = random.choice((all_webs(book.letters), some_ends(random, book.letters, 4),
                                          ending(book.letters, web), no_webs(book.letters)))
                    yield random, book, log, (random.choice(still), random.choice(book.letters + "??")), ends


def fits(book, log, order, web):
    return done(book, weft_of(log, order), web) is not None


def sets_of(log, number):
    others = others_of(log, number)
    return [some for many in range(len(others) + 1) for some in combinations(others, many)]


def fit_outcome(log, number, some):
    return tuple(sorted([lot[0] for lot in log if lot[1]] + [number, *some]))


def is_right_row(book, log, wish, row, webs):
    """Whether a row of the right form is right on some webs, looked at one by one."""
    if len(row) == 2:
        return not any(fits(book, log, order, web) for web in webs for order in orders(log, row[1]))
    if not all(fits(book, log, order, web) for web in webs for order in row[1]):
        return False
    for item, told in zip(items_of_wish(book.letters, log, wish), row[2]):
        further = with_item(log, wish[0], item)
        for some, order in zip(sets_of(log, wish[0]), told):
            if order is None:
                ways = orders(log, fit_outcome(log, wish[0], some))
                if any(fits(book, further, way, web) for way in ways for web in webs):
                    return False
            elif not all(fits(book, further, order, web) for web in webs):
                return False
    return True


class AnswerPapers(unittest.TestCase):
    def check_form(self, book, log, wish, row):
        self.assertTrue(is_end_set(row[0]))
        if len(row) == 2:
            self.assertIn(row[1], outcomes(log))
            return
        self.assertEqual([tuple(sorted(order)) for order in row[1]], list(outcomes(log)))
        self.assertEqual(len(row[2]), len(items_of_wish(book.letters, log, wish)))
        for told in row[2]:
            self.assertEqual(len(told), len(sets_of(log, wish[0])))
            for some, order in zip(sets_of(log, wish[0]), told):
                self.assertTrue(order is None or tuple(sorted(order)) == fit_outcome(log, wish[0], some))

    def test_example(self):
        paper = ("status", (ROW,))
        self.assertTrue(status_holds(PLAIN, KEEPER, (0, "a"), BARE, paper))
        self.assertEqual(row_status("ab", KEEPER, (0, "a"), ROW), ("waits", (((), (1,)),)))
        told = judge_status(PLAIN, KEEPER, (0, "a"), BARE)
        self.assertTrue(status_holds(PLAIN, KEEPER, (0, "a"), BARE, told))
        self.assertEqual(row_status("ab", KEEPER, (0, "a"), told[1][0]), ("waits", (((), (1,)),)))
        self.assertEqual(judge_status(PLAIN, KEEPER, (0, "a"), no_webs("ab")), ("status", ()))
        self.assertTrue(status_holds(PLAIN, KEEPER, (0, "a"), no_webs("ab"), ("status", ())))
        self.assertFalse(status_holds(PLAIN, KEEPER, (0, "a"), BARE, ("status", ())))

    def test_papers_beside_single_webs(self):
        kinds = set()
        for _, book, log, wish, ends in cases():
            paper = judge_status(book=book, log=log, wish=wish, ends=ends)
            self.assertIs(status_holds(book=book, log=log, wish=wish, ends=ends, thing=paper), True)
            webs = webs_to(book.letters, 3)
            for row in paper[1]:
                self.check_form(book, log, wish, row)
                held = [web for web in webs if row[0].says(web)]
                self.assertTrue(is_right_row(book, log, wish, row, held))
                told = row_status(letters=book.letters, log=log, wish=wish, row=row)
                kinds.add(told[0])
                for web in held[:6] + [first_web(row[0])]:
                    self.assertEqual(status(book, log, wish, web), told)
            for web in webs:
                self.assertTrue(not ends.says(web) or any(row[0].says(web) for row in paper[1]))
        self.assertEqual(kinds, {"unsound", "told", "waits", "never"})

    def test_right_papers_that_are_not_the_told_ones(self):
        for random, book, log, wish, ends in cases():
            rows = judge_status(book, log, wish, ends)[1]
            split = some_ends(random, book.letters, 3)
            parts = tuple((part(row[0], split), *row[1:]) for row in rows for part in (both, but_not))
            self.assertTrue(status_holds(book, log, wish, ends, ("status", parts)))
            self.assertTrue(status_holds(book, log, wish, ends, ("status", rows + parts[::-1])))
            for at in range(len(parts)):
                left = no_webs(book.letters)
                for row in parts[:at] + parts[at + 1:]:
                    left = either(left, row[0])
                self.assertIs(status_holds(book, log, wish, ends, ("status", parts[:at] + parts[at + 1:])),
                              is_within(ends, left))

    def test_other_orders(self):
        """Every order in the place of another one, and None, is right just if it is on the webs of the row."""
        told_kinds = set()
        for random, book, log, wish, ends in cases():
            rows = judge_status(book, log, wish, ends)[1]
            webs = webs_to(book.letters, 6 if len(book) < 3 else 4)
            for row in [row for row in rows if len(row) == 3][:2]:
                held = [web for web in webs if row[0].says(web)]
                self.assertEqual(is_right_row(book, log, wish, row, held), True)
                at = random.randrange(len(row[1]))
                others = [(row[0], row[1][:at] + (order,) + row[1][at + 1:], row[2])
                          for order in orders(log, outcomes(log)[at])]
                line = random.randrange(len(row[2]))
                place = random.randrange(len(row[2][line]))
                for order in [None, *orders(log, fit_outcome(log, wish[0], sets_of(log, wish[0])[place]))]:
                    fresh = row[2][line][:place] + (order,) + row[2][line][place + 1:]
                    others.append((row[0], row[1], row[2][:line] + (fresh,) + row[2][line + 1:]))
                for other in others:
                    wanted = is_right_row(book, log, wish, other, held)
                    told_kinds.add(wanted)
                    self.assertIs(status_holds(book, log, wish, row[0], ("status", (other,))), wanted)
        self.assertEqual(told_kinds, {True, False})

    def test_rows_without_webs_keep_their_form(self):
        none = no_webs("ab")
        for row in ((none, (0,)), (none, ()), (none, ((), (0,), (1,), (0, 1)), (((0,), (0, 1)),)),
                    (none, ((), (0,), (1,), (0, 1)), ((None, None),))):
            self.assertTrue(status_holds(PLAIN, KEEPER, (0, "a"), none, ("status", (row,))), row)
            self.assertTrue(status_holds(PLAIN, KEEPER, (0, "a"), BARE, ("status", (ROW, row))))
        for row in ((none, (2,)), (none,), none, (none, None), (none, ((), (0,), (1,), (1, 0)), ((None, None),)),
                    (none, ((), (0,), (1,), (0, 1)), ((None,),)), (none, ((), (0,), (1,)), ((None, None),)),
                    (none, ((), (0,), (1,), (0, 1)), ((None, None), (None, None))), (none, (0, 1), ((None, None),)),
                    (none, ((), (0,), (1,), (0, 1)), (((1,), None),)), (none, ((), (0,), (1,), (0, 1)), [(None, None)]),
                    (all_webs("abx"), ()), (Teller("ab", (("says", ""),)), ()), [none, ()], (none, (), (), ())):
            self.assertFalse(status_holds(PLAIN, KEEPER, (0, "a"), none, ("status", (row,))), row)
        self.assertFalse(status_holds(PLAIN, KEEPER, (0, "a"), BARE, ("status", ((BARE, (0,)),))))
        self.assertTrue(status_holds(PLAIN, KEEPER, (0, "a"), lone_web("ab", "a"), ("status", ((ending("ab", "a"), (1,)),))))

    def test_altered_papers(self):
        for log, wish, ends in ((KEEPER, (0, "a"), BARE), (LOOKER, (1, "?"), ending("ab", "a")),
                                (KEEPER, (1, "b"), ending("ab", "b"))):
            paper = judge_status(PLAIN, log, wish, ends)
            for thing in altered(paper):
                told = status_holds(PLAIN, log, wish, ends, thing)
                right = repr(thing) == repr(paper) or repr(thing) == repr(("status", paper[1] * 2))
                self.assertIs(told, right, thing)

    def test_wrong_values(self):
        for thing in WRONG:
            for paper in (thing, ("status", thing), (thing, (ROW,)), ("status", (thing,)), ("status", ((BARE, thing),)),
                          ("status", ((BARE, thing, ROW[2]),)), ("status", ((BARE, ROW[1], thing),)),
                          ("status", ((thing, ROW[1], ROW[2]),)), ("status", ((BARE, ROW[1], (thing,)),)),
                          ("status", ((BARE, ROW[1], ((thing, None),)),)), ("status", (ROW, thing))):
                self.assertIs(status_holds(PLAIN, KEEPER, (0, "a"), BARE, paper), False, paper)

    def test_wrong_wishes_and_letters(self):
        for thing in WRONG:
            for call in (lambda: judge_status(PLAIN, KEEPER, thing, BARE),
                         lambda: status_holds(PLAIN, KEEPER, thing, BARE, ("status", ())),
                         lambda: row_status("ab", KEEPER, thing, ROW)):
                self.assertIs(raised(BadWish, call).thing, thing)
            raised(OtherLetters, lambda: judge_status(PLAIN, KEEPER, thing, all_webs("abx")))
            raised(OtherLetters, lambda: status_holds(PLAIN, KEEPER, thing, all_webs("abx"), ("status", ())))

    def test_rows_tell_what_the_teller_says(self):
        for _, book, log, wish, _ in cases():
            teller = status_teller(book, log, wish, most=10000)
            rows = judge_status(book, log, wish, all_webs(book.letters))[1]
            for web in webs_to(book.letters, 3):
                told = {row_status(book.letters, log, wish, row) for row in rows if row[0].says(web)}
                self.assertEqual(told, {teller.says(web)})


if __name__ == "__main__":
    unittest.main()
