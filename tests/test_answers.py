"""[5.2], [5.3]: fits, releases and the status of wishes, beside released logs on single webs."""

import unittest
from itertools import combinations

from millhands.answers import (fit_set, first_with, least_releases, lets_set, status, status_teller, told_items,
                               with_set)
from millhands.errors import BadWeb, BadWish, TooMany, Unsound
from millhands.logs import handed, outcomes, taken_out, with_item
from millhands.sheds import first_order, is_sound
from millhands.tellers import Teller, all_webs, is_end_set
from millhands.wishes import is_release_within, items_of_wish, others_of, released, releases_of
from tests.support import (BOOKS, ONE, PLAIN, POP, WRONG, raised, seeded, some_book, some_log, some_web, told_log,
                           webs_to)
from tests.test_logs import T1
from tests.test_wishes import KEEPER

LOOKER = ((0, False, (), ("a",)), (1, False, (0,), ()))
LOOKS = ("waits", (((), (0,)), ((0,), ())))
WORDS = ("unsound", "told", "waits", "never")


def cases():
    random = seeded(230)
    yield PLAIN, LOOKER, (1, "?")
    yield PLAIN, KEEPER, (0, "a")
    yield PLAIN, handed(KEEPER, 1), (0, "a")
    for book in list(BOOKS) + [some_book(random, letters) for letters in ("a", "ab", "abc", "ab", "abc")]:
        for lots in (1, 2, 3, 4):
            web = some_web(random, book.letters, 2)
            for log in (told_log(random, book, web, lots, 4, 2), some_log(random, book.letters, lots, 4)):
                still = [lot[0] for lot in log if not lot[1]]
                if still:
                    for deed in (random.choice(book.letters), "?"):
                        yield book, log, (random.choice(still), deed)


def lets(book, log, wish, item, release, web):
    return is_sound(book, with_item(released(log, release), wish[0], item), web)


def least_by_hand(book, log, wish, web):
    items = items_of_wish(book.letters, log, wish)
    letting = [release for release in releases_of(log, wish[0])
               if any(lets(book, log, wish, item, release, web) for item in items)]
    return tuple(release for release in letting
                 if not any(other != release and is_release_within(other, release) for other in letting))


def status_by_hand(book, log, wish, web):
    if not is_sound(book, log, web):
        return ("unsound",)
    for item in items_of_wish(book.letters, log, wish):
        if is_sound(book, with_item(log, wish[0], item), web):
            return ("told", item)
    least = least_by_hand(book, log, wish, web)
    return ("waits", least) if least else ("never",)


def some_webs(book):
    return webs_to(book.letters, 2) + [book.letters[0] * 3, book.letters[-1] * 4]


class Answers(unittest.TestCase):
    def test_examples(self):
        self.assertEqual(status(PLAIN, LOOKER, (1, "?"), "b"), LOOKS)
        self.assertEqual(status(PLAIN, LOOKER, (1, "?"), "a"), ("told", "?a"))
        self.assertEqual(status_teller(PLAIN, LOOKER, (1, "?")),
                         Teller("ab", (("reads", LOOKS, 1, 2), ("says", ("told", "?a")), ("says", LOOKS))))
        self.assertEqual(status(PLAIN, KEEPER, (0, "a"), ""), ("waits", (((), (1,)),)))
        self.assertEqual(status(PLAIN, handed(KEEPER, 1), (0, "a"), ""), ("never",))
        self.assertEqual(status(PLAIN, KEEPER, (0, "a"), "a"), ("unsound",))
        self.assertEqual(status(PLAIN, ((0, False, (), ()), (1, True, (), ("?-",))), (0, "a"), ""), ("told", "a"))

    def test_single_webs(self):
        kinds = set()
        for book, log, wish in cases():
            teller = status_teller(book=book, log=log, wish=wish, most=10000)
            self.assertTrue(teller.is_least())
            for web in some_webs(book):
                wanted = status_by_hand(book, log, wish, web)
                kinds.add((wanted[0], wish[1] == "?"))
                self.assertEqual(status(book=book, log=log, wish=wish, web=web), wanted)
                self.assertEqual(teller.says(web), wanted)
                items = items_of_wish(book.letters, log, wish)
                told = tuple(item for item in items if is_sound(book, with_item(log, wish[0], item), web))
                self.assertEqual(told_items(book=book, log=log, wish=wish, web=web), told)
                if wanted[0] != "unsound":
                    self.assertEqual(least_releases(book=book, log=log, wish=wish, web=web),
                                     least_by_hand(book, log, wish, web))
        # Whatever the others do, a look sees something: it is never told that it can never be.
        self.assertEqual(kinds, {(word, is_look) for word in WORDS for is_look in (True, False)} - {("never", True)})

    def test_sets_of_words(self):
        for book, log, wish in cases():
            teller = status_teller(book, log, wish, most=10000)
            for word in WORDS:
                ends = with_set(book=book, log=log, wish=wish, word=word)
                self.assertTrue(is_end_set(ends) and ends.is_least())
                webs = [web for web in webs_to(book.letters, 3) if teller.says(web)[0] == word]
                self.assertEqual([web for web in webs_to(book.letters, 3) if ends.says(web)], webs)
                first = first_with(book=book, log=log, wish=wish, word=word)
                self.assertTrue(first == webs[0] if webs else first is None or len(first) > 3)

    def test_lets_and_fits(self):
        for book, log, wish in cases():
            handed_in = [lot[0] for lot in log if lot[1]]
            others = others_of(log, wish[0])
            for item in items_of_wish(book.letters, log, wish):
                further = with_item(log, wish[0], item)
                fits = {}
                for some in [some for many in range(len(others) + 1) for some in combinations(others, many)]:
                    fits[some] = fit_set(book=book, log=log, number=wish[0], item=item, some=some)
                    self.assertTrue(fits[some].is_least() and is_end_set(fits[some]))
                    outcome = tuple(sorted([*handed_in, wish[0], *some]))
                    for web in some_webs(book):
                        self.assertIs(fits[some].says(web), first_order(book, further, outcome, web) is not None)
                for release in releases_of(log, wish[0]):
                    ends = lets_set(book=book, log=log, number=wish[0], item=item, release=release)
                    self.assertTrue(ends.is_least() and is_end_set(ends))
                    left = [some for some in fits if set(release[0]) <= set(some) and not set(release[1]) & set(some)]
                    for web in some_webs(book):
                        self.assertIs(ends.says(web), lets(book, log, wish, item, release, web))
                        if is_sound(book, log, web):
                            self.assertIs(ends.says(web), all(fits[some].says(web) for some in left))

    def test_what_is_not_sound_can_be_sound_with_an_item(self):
        log = ((0, False, (), ("a",)), (1, True, (0,), ("?b",)))
        self.assertFalse(is_sound(PLAIN, log, "b"))
        self.assertEqual(status(PLAIN, log, (0, "b"), "b"), ("unsound",))
        self.assertEqual(told_items(PLAIN, log, (0, "b"), "b"), ("b",))
        self.assertEqual(told_items(PLAIN, log, (0, "a"), "b"), ())
        self.assertTrue(lets_set(PLAIN, log, 0, "b", ((), ())).says("b"))
        further = (*log, (2, False, (), ("?a",)))
        self.assertEqual(told_items(PLAIN, further, (0, "b"), "b"), ())
        self.assertTrue(lets_set(PLAIN, further, 0, "b", ((), (2,))).says("b"))
        self.assertFalse(lets_set(PLAIN, further, 0, "b", ((2,), ())).says(""))

    def test_most(self):
        for book, log, wish in cases():
            teller = status_teller(book, log, wish, most=10000)
            self.assertEqual(status_teller(book, log, wish, most=len(teller)), teller)
            error = raised(TooMany, lambda: status_teller(book, log, wish, most=len(teller) - 1))
            self.assertEqual(error.most, len(teller) - 1)

    def test_wrong_wishes(self):
        for thing in WRONG + ((0, "c"), (2, "a"), (False, "a"), (0, "?a"), [0, "a"], (0, "a", 0)):
            for call in (lambda: told_items(PLAIN, LOOKER, thing, 0), lambda: least_releases(PLAIN, LOOKER, thing, 0),
                         lambda: status(PLAIN, LOOKER, thing, 0), lambda: status_teller(PLAIN, LOOKER, thing, most=0),
                         lambda: first_with(PLAIN, LOOKER, thing, "told"), lambda: with_set(PLAIN, LOOKER, thing, "told")):
                self.assertIs(raised(BadWish, call).thing, thing)
        self.assertEqual(raised(BadWish, lambda: status(PLAIN, T1, (0, "a"), "")).thing, (0, "a"))

    def test_wrong_webs(self):
        for thing in ("c", None, ("a",), 0, True, ["a"], PLAIN):
            for call in (told_items, least_releases, status):
                self.assertIs(raised(BadWeb, lambda: call(PLAIN, KEEPER, (0, "a"), thing)).thing, thing)

    def test_unsound(self):
        self.assertEqual(raised(Unsound, lambda: least_releases(PLAIN, KEEPER, (0, "a"), "a")).outcome, (1,))
        for book, log, wish in cases():
            for web in webs_to(book.letters, 1):
                wrong = [one for one in outcomes(log) if first_order(book, log, one, web) is None]
                if wrong:
                    error = raised(Unsound, lambda: least_releases(book, log, wish, web))
                    self.assertEqual(error.outcome, wrong[0])

    def test_limits(self):
        random = seeded(231)
        for book in (ONE, PLAIN, POP):
            web = some_web(random, book.letters, 60)
            log = told_log(random, book, web, 4, 7, 4 - (len(book) > 2))
            for number in [lot[0] for lot in log if not lot[1]]:
                for deed in book.letters + "?":
                    told = status_teller(book, log, (number, deed), most=100000).says(web)
                    self.assertEqual(told, status(book, log, (number, deed), web))

    def test_lone_hand(self):
        log = ((7, False, (), ()),)
        for book in BOOKS:
            for letter in book.letters:
                self.assertEqual(status(book, log, (7, letter), ""), ("told", letter))
                self.assertEqual(status(book, log, (7, "?"), letter), ("told", "?" + letter))
            self.assertEqual(status(book, log, (7, "?"), ""), ("told", "?-"))
            self.assertEqual(with_set(book, log, (7, "?"), "told"), all_webs(book.letters))
            self.assertEqual(taken_out(log, 7), ())


if __name__ == "__main__":
    unittest.main()
