"""[3.3], [3.4] and the interface of items."""

import unittest
from itertools import combinations, product

from millhands.errors import BadWeft
from millhands.items import barred_items, circles, do_items_pass, do_wefts_pass, items_of
from millhands.passing import do_pass
from millhands.wefts import reader_of
from tests.support import BOOKS, ONE, PLAIN, POP, seeded, some_book, some_weft, webs_to
from tests.test_passing import WORDS, passes_by_hand


def books():
    random = seeded(60)
    return list(BOOKS) + [some_book(random, letters) for letters in ("a", "ab", "ab", "abc", "abc")]


def barred_by_hand(book, word, item, further):
    """The first web of at most three letters that bars two items, None if there is none."""
    one, other = reader_of(book, (item,)), reader_of(book, (further,))
    for web in webs_to(book.letters, 3):
        if not passes_by_hand(word, one, other, web):
            return web
    return None


class Items(unittest.TestCase):
    def test_items(self):
        self.assertEqual(items_of(POP), ("?-", "?a", "?b", "?x", "a", "b", "x"))
        self.assertEqual(items_of(book=ONE), ("?-", "?a", "a"))

    def test_examples(self):
        self.assertIs(do_items_pass(POP, "forward", "?a", "b"), False)
        self.assertIs(do_items_pass(POP, "ahead", "?a", "b"), True)
        self.assertIs(do_items_pass(POP, "ahead", "b", "?a"), False)
        self.assertIs(do_items_pass(POP, "even", "a", "x"), False)
        self.assertIs(do_wefts_pass(POP, "even", ("a", "x"), ("a",)), False)
        self.assertEqual(circles(POP, "even"), (("?-", "?a", "?b", "?x"), ("a",), ("b",), ("x",)))

    def test_items_beside_short_webs(self):
        for book in books():
            for word in WORDS:
                rows = []
                for item, further in product(items_of(book), repeat=2):
                    web = barred_by_hand(book, word, item, further)
                    self.assertIs(do_items_pass(book=book, word=word, item=item, further=further), web is None)
                    self.assertTrue(web is None or len(web) <= 2)
                    if web is not None and item != further and (word == "ahead" or item < further):
                        rows.append((item, further, web))
                self.assertEqual(barred_items(book=book, word=word), tuple(rows))

    def test_circles_beside_all_sets(self):
        for book in books():
            items = items_of(book)
            for word in ("forward", "even"):
                barred = {(item, further) for item, further, _ in barred_items(book, word)}
                sets = [set(some) for many in range(1, len(items) + 1) for some in combinations(items, many)
                        if not any(pair in barred for pair in combinations(some, 2))]
                greatest = [some for some in sets if not any(some < other for other in sets)]
                self.assertEqual(circles(book=book, word=word), tuple(sorted(tuple(sorted(some)) for some in greatest)))

    def test_wefts(self):
        random = seeded(61)
        held = 0
        for book in books():
            for _ in range(6):
                one, other = some_weft(random, book.letters, 2), some_weft(random, book.letters, 2)
                for word in WORDS:
                    wanted = all(do_items_pass(book, word, item, further) for item in one for further in other)
                    self.assertIs(do_wefts_pass(book=book, word=word, one=one, other=other), wanted)
                    if wanted:
                        held += 1
                        self.assertTrue(do_pass(word, reader_of(book, one), reader_of(book, other)))
        self.assertGreater(held, 20)
        self.assertIs(do_wefts_pass(PLAIN, "even", (), ("a", "?b")), True)
        self.assertIs(do_wefts_pass(PLAIN, "even", ("a", "a"), ("a",) * 8), True)

    def test_wrong_wefts(self):
        for thing in ("a", None, ("c",), ["a"], ("a", "?"), 0, POP):
            for pair in ((thing, 7), (("a",), thing), ((), thing)):
                with self.assertRaises(BadWeft) as caught:
                    do_wefts_pass(PLAIN, "even", *pair)
                self.assertIs(caught.exception.thing, thing)
