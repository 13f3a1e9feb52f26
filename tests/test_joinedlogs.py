"""[4.5]: logs joined, beside all pairs of lots that are kept, on short webs."""

import unittest
from itertools import combinations

from millhands.errors import BadWeb
from millhands.joinedlogs import first_barred_web, joined_set, least_bars, most_kept
from millhands.logs import joined_logs, kept
from millhands.sheds import is_sound
from millhands.tellers import all_webs, is_end_set
from tests.support import BOOKS, PAIRS, PLAIN, POP, raised, seeded, some_book, some_log, some_web, told_log, webs_to
from tests.test_logs import GAPS, T0, T1

ONE = ((0, True, (), ("a", "?a")),)
OTHER = ((0, True, (), ("?-", "a")),)


def some_of(log):
    numbers = [lot[0] for lot in log]
    return [some for many in range(len(numbers) + 1) for some in combinations(numbers, many)]


def stays(book, one, other, pair, web):
    return is_sound(book, joined_logs(kept(one, pair[0]), kept(other, pair[1])), web)


def bars(book, one, other, pair, web):
    return (not stays(book, one, other, pair, web) and is_sound(book, kept(one, pair[0]), web)
            and is_sound(book, kept(other, pair[1]), web))


def within(pair, further):
    return set(pair[0]) <= set(further[0]) and set(pair[1]) <= set(further[1])


def cases():
    random = seeded(210)
    yield PAIRS, ONE, OTHER
    yield PLAIN, GAPS, T1
    for book in list(BOOKS) + [some_book(random, letters) for letters in ("a", "ab", "abc", "ab")]:
        for many, others in ((0, 0), (1, 1), (2, 0), (2, 2), (3, 2)):
            one, other = (some_log(random, book.letters, lots, 4) if lots else () for lots in (many, others))
            yield book, one, other
            web = some_web(random, book.letters, 2)
            if others:
                yield book, told_log(random, book, web, many, 4, 2), told_log(random, book, web, others, 4, 2)


class JoinedLogs(unittest.TestCase):
    def test_examples(self):
        self.assertEqual(least_bars(PAIRS, ONE, OTHER, ""), (((0,), (0,)),))
        self.assertEqual(most_kept(PAIRS, ONE, OTHER, ""), (((), (0,)), ((0,), ())))
        self.assertEqual(first_barred_web(PAIRS, ONE, OTHER), "")
        self.assertFalse(joined_set(PAIRS, ONE, OTHER).says(""))

    def test_empty_logs(self):
        for book in BOOKS:
            self.assertEqual(joined_set(book, (), ()), all_webs(book.letters))
            self.assertIsNone(first_barred_web(book, (), ()))
            self.assertEqual(least_bars(book, (), (), "a"), ())
            self.assertEqual(most_kept(book, (), (), "a"), (((), ()),))

    def test_numbers_are_those_of_each_log(self):
        one = ((3, False, (), ("?a",)),)
        other = ((1, True, (), ("?-",)), (4, False, (1,), ()))
        self.assertEqual(least_bars(PLAIN, one, other, "a"), ())
        # The look at a never fits a bare web, the look at the bare web never fits an a.
        self.assertEqual(most_kept(PLAIN, one, other, "a"), (((3,), (4,)),))
        self.assertEqual(most_kept(PLAIN, one, other, ""), (((), (1, 4)),))

    def test_beside_all_pairs(self):
        kinds = set()
        for book, one, other in cases():
            pairs = [(some, others) for some in some_of(one) for others in some_of(other)]
            for web in webs_to(book.letters, 1) + [book.letters[-1] * 2, book.letters[0] * 3]:
                barring = [pair for pair in pairs if bars(book, one, other, pair, web)]
                staying = [pair for pair in pairs if stays(book, one, other, pair, web)]
                kinds.add((bool(barring), len(staying) == len(pairs)))
                least = [pair for pair in barring if not any(within(held, pair) and held != pair for held in barring)]
                most = [pair for pair in staying if not any(within(pair, held) and held != pair for held in staying)]
                self.assertEqual(least_bars(book=book, one=one, other=other, web=web), tuple(sorted(least)))
                self.assertEqual(most_kept(book=book, one=one, other=other, web=web), tuple(sorted(most)))
        self.assertEqual(kinds, {(True, False), (False, True), (False, False)})

    def test_sets_beside_single_webs(self):
        found = set()
        for book, one, other in cases():
            joined = joined_set(book=book, one=one, other=other)
            self.assertTrue(is_end_set(joined) and joined.is_least())
            whole = (tuple(lot[0] for lot in one), tuple(lot[0] for lot in other))
            barred = []
            for web in webs_to(book.letters, 3):
                self.assertIs(joined.says(web), is_sound(book, joined_logs(one, other), web))
                barred += [web] if bars(book, one, other, whole, web) else []
            first = first_barred_web(book=book, one=one, other=other)
            found.add(first is None)
            self.assertTrue(first == barred[0] if barred else first is None or len(first) > 3)
        self.assertEqual(found, {True, False})

    def test_wrong_webs(self):
        for thing in ("c", None, ("a",), 0, True, ["a"], PLAIN, "a "):
            for call in (least_bars, most_kept):
                self.assertIs(raised(BadWeb, lambda: call(PAIRS, T0, T1, thing)).thing, thing)

    def test_limits(self):
        one = ((0, False, (), ("a", "?a")), (1, True, (0,), ("x",)), (2, False, (), ("b",)))
        other = ((0, False, (), ("?a", "x")), (5, False, (0,), ("?-",)))
        for web in ("", "a", "ab" * 30):
            self.assertTrue(all(stays(POP, one, other, pair, web) for pair in most_kept(POP, one, other, web)))
            self.assertTrue(all(bars(POP, one, other, pair, web) for pair in least_bars(POP, one, other, web)))
            self.assertIs(joined_set(POP, one, other).says(web), is_sound(POP, joined_logs(one, other), web))


if __name__ == "__main__":
    unittest.main()
