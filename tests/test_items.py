"""[3.3], [3.4] and the interface of items."""

import unittest
from itertools import combinations, product
from time import process_time

from millhands.books import Book
from millhands.errors import BadWeft
from millhands.items import barred_items, circles, do_items_pass, do_wefts_pass, items_of
from millhands.moving import do_move, first_form, judge_moved, many_moved, moved_holds, steps_of
from millhands.passing import do_pass, first_barred
from millhands.wefts import reader_of
from tests.support import BOOKS, ONE, PLAIN, POP, seeded, some_book, some_weft, webs_to
from tests.test_passing import WORDS, passes_by_hand


MANY = Book("abc", (("a", "a", "b"), ("a", "b", ""), ("a", "c", "a"), ("b", "a", ""), ("b", "b", "c"), ("b", "c", "a"),
                    ("c", "a", "b"), ("c", "b", ""), ("c", "c", "c")))


def books():
    random = seeded(60)
    return list(BOOKS) + [some_book(random, letters) for letters in ("a", "ab", "ab", "abc", "abc")]


def barred_by_hand(book, word, item, further):
    """The first web of at most three letters that bars two items, None if there is none."""
    one, other = reader_of(book, (item,)), reader_of(book, (further,))
    for web in webs_to(book.letters, 3):
        if not passes_by_hand(word, one, other, web):
            return web
    return None


class Items(unittest.TestCase):
    def test_items(self):
        self.assertEqual(items_of(POP), ("?-", "?a", "?b", "?x", "a", "b", "x"))
        self.assertEqual(items_of(book=ONE), ("?-", "?a", "a"))

    def test_examples(self):
        self.assertIs(do_items_pass(POP, "forward", "?a", "b"), False)
        self.assertIs(do_items_pass(POP, "ahead", "?a", "b"), True)
        self.assertIs(do_items_pass(POP, "ahead", "b", "?a"), False)
        self.assertIs(do_items_pass(POP, "even", "a", "x"), False)
        self.assertIs(do_wefts_pass(POP, "even", ("a", "x"), ("a",)), False)
        self.assertEqual(circles(POP, "even"), (("?-", "?a", "?b", "?x"), ("a",), ("b",), ("x",)))

    def test_items_beside_short_webs(self):
        for book in books():
            for word in WORDS:
                rows = []
                for item, further in product(items_of(book), repeat=2):
                    web = barred_by_hand(book, word, item, further)
                    self.assertIs(do_items_pass(book=book, word=word, item=item, further=further), web is None)
                    self.assertTrue(web is None or len(web) <= 2)
                    if web is not None and item != further and (word == "ahead" or item < further):
                        rows.append((item, further, web))
                self.assertEqual(barred_items(book=book, word=word), tuple(rows))

    def test_items_beside_readers(self):
        """Told by short webs, items pass just where their readers do on all webs."""
        random = seeded(62)
        for book in [MANY] + [some_book(random, letters) for letters in ("a", "ab", "ab", "abc", "abc", "abc")]:
            readers = {item: reader_of(book, (item,)) for item in items_of(book)}
            for word in WORDS:
                barred = {(item, further): web for item, further, web in barred_items(book, word)}
                for item, further in product(readers, repeat=2):
                    wanted = do_pass(word, readers[item], readers[further])
                    self.assertIs(do_items_pass(book, word, item, further), wanted)
                    if item != further and (word == "ahead" or item < further):
                        web = first_barred(word, readers[item], readers[further])
                        self.assertEqual(barred.get((item, further)), web)

    def test_items_are_not_asked_by_readers(self):
        """For all pairs of items it takes far less time than by their readers, for a weft with its papers, too."""
        readers = {item: reader_of(MANY, (item,)) for item in items_of(MANY)}
        start = process_time()
        for word, item, further in product(WORDS, readers, readers):
            do_pass(word, readers[item], readers[further])
        by_readers = process_time() - start
        start = process_time()
        for word, item, further in product(WORDS, readers, readers):
            do_items_pass(MANY, word, item, further)
        for word in WORDS:
            barred_items(MANY, word)
        circles(MANY, "forward")
        circles(MANY, "even")
        self.assertLess(process_time() - start, by_readers / 4)
        weft = ("a", "?b", "c", "?-", "b", "?a", "?c", "a")
        start = process_time()
        paper = judge_moved(MANY, weft, weft[::-1])
        moved_holds(MANY, weft, weft[::-1], paper)
        for call in (first_form, steps_of, many_moved):
            call(MANY, weft)
        do_move(MANY, weft, weft)
        self.assertLess(process_time() - start, by_readers / 4)

    def test_circles_beside_all_sets(self):
        for book in books():
            items = items_of(book)
            for word in ("forward", "even"):
                barred = {(item, further) for item, further, _ in barred_items(book, word)}
                sets = [set(some) for many in range(1, len(items) + 1) for some in combinations(items, many)
                        if not any(pair in barred for pair in combinations(some, 2))]
                greatest = [some for some in sets if not any(some < other for other in sets)]
                self.assertEqual(circles(book=book, word=word), tuple(sorted(tuple(sorted(some)) for some in greatest)))

    def test_wefts(self):
        random = seeded(61)
        held = 0
        for book in books():
            for _ in range(6):
                one, other = some_weft(random, book.letters, 2), some_weft(random, book.letters, 2)
                for word in WORDS:
                    wanted = all(do_items_pass(book, word, item, further) for item in one for further in other)
                    self.assertIs(do_wefts_pass(book=book, word=word, one=one, other=other), wanted)
                    if wanted:
                        held += 1
                        self.assertTrue(do_pass(word, reader_of(book, one), reader_of(book, other)))
        self.assertGreater(held, 20)
        self.assertIs(do_wefts_pass(PLAIN, "even", (), ("a", "?b")), True)
        self.assertIs(do_wefts_pass(PLAIN, "even", ("a", "a"), ("a",) * 8), True)

    def test_wrong_items(self):
        for thing in ("c", "?", "?c", "", "ab", None, 0, ["a"], ("a",)):
            for pair in ((thing, "a"), ("a", thing), (thing, "no")):
                with self.assertRaises(BadWeft) as caught:
                    do_items_pass(PLAIN, "even", *pair)
                self.assertEqual(caught.exception.thing, (thing,))

    def test_wrong_wefts(self):
        for thing in ("a", None, ("c",), ["a"], ("a", "?"), 0, POP):
            for pair in ((thing, 7), (("a",), thing), ((), thing)):
                with self.assertRaises(BadWeft) as caught:
                    do_wefts_pass(PLAIN, "even", *pair)
                self.assertIs(caught.exception.thing, thing)
