"""[2.6], texts of wefts, and the interface of wefts."""

import unittest

from millhands.books import laid_on
from millhands.errors import BadText, BadWeb, BadWeft
from millhands.readers import Reader, joined, letters_read, unchanged
from millhands.wefts import done, fails_at, is_item, is_weft, reader_of, weft_read, weft_text
from tests.support import (BOOKS, MARKS, PAIRS, PLAIN, POP, WRONG, X, seeded, some_book, some_weft, webs_to)


def done_by_hand(book, weft, web):
    for place, item in enumerate(weft):
        if item[0] == "?":
            if (web[-1:] or "-") != item[1]:
                return None, place
        else:
            web = laid_on(book, web, item)
    return web, None


class Wefts(unittest.TestCase):
    def test_items(self):
        for thing in ("a", "b", "?a", "?b", "?-"):
            self.assertIs(is_item("ab", thing), True)
        for thing in ("", "c", "?c", "?", "-", "??", "ab", "?ab", "a?", "?- ", None, 0, ("a",), ["?a"], True, POP, "?A"):
            self.assertIs(is_item(letters="ab", thing=thing), False)
            self.assertIs(is_weft("ab", (thing,)), False)
            self.assertIs(is_weft("ab", ("a", thing)), False)

    def test_wefts(self):
        for thing in ((), ("a",), ("?-", "a", "?a", "b") * 3):
            self.assertIs(is_weft(letters="ab", thing=thing), True)
        for thing in ("a", "", [], ["a"], None, 1, {}, ("c",), POP, {"a": 1}):
            self.assertIs(is_weft("ab", thing), False)

    def test_texts(self):
        self.assertEqual(weft_text(("?-", "a")), "?- a")
        self.assertEqual(weft_text(weft=()), "-")
        random = seeded(30)
        for letters in ("a", "ab", "abc"):
            for _ in range(20):
                weft = some_weft(random, letters, 8)
                self.assertEqual(weft_read(letters=letters, text=weft_text(weft)), weft)

    def test_wrong_texts(self):
        for thing in ("", " ", "a  b", " a", "a ", "c", "a -", "- a", "?", "a\nb", "ab", "- -", None, 0, ("a",), ["a"], POP,
                      True, (), "-\n"):
            with self.assertRaises(BadText) as caught:
                weft_read("ab", thing)
            self.assertEqual(caught.exception.line, 0)

    def test_examples(self):
        self.assertEqual(reader_of(POP, ("x",)), X)
        self.assertEqual(reader_of(POP, ("?a", "x")),
                         Reader("abx", (("reads", None, 1, 2, 2), ("stops", ""), ("none",))))
        self.assertEqual(reader_of(POP, ("x", "x")), joined(X, X))
        self.assertEqual(reader_of(POP, ("a", "x")), unchanged("abx"))
        self.assertEqual(letters_read(reader_of(POP, ("a", "x"))), 0)
        self.assertEqual(reader_of(PAIRS, ("a", "a")).nodes, (("reads", "", 1, 2), ("reads", "a", 3, 4), ("stops", "b"),
                                                              ("stops", ""), ("stops", "ba")))
        self.assertEqual(reader_of(MARKS, ("m",)), Reader("am", (("reads", "m", 1, 2), ("stops", "am"), ("stops", "m"))))
        self.assertEqual(fails_at(POP, ("a", "x", "?a"), "b"), 2)
        self.assertEqual(done(POP, ("a", "x", "?b"), "b"), "b")

    def test_readers_beside_done(self):
        random = seeded(31)
        books = list(BOOKS) + [some_book(random, letters) for letters in ("a", "ab", "abc") * 6]
        for book in books:
            for _ in range(12):
                weft = some_weft(random, book.letters, 6)
                reader = reader_of(book=book, weft=weft)
                self.assertTrue(reader.is_least())
                self.assertLessEqual(letters_read(reader), len(weft))
                for web in webs_to(book.letters, 4):
                    left, place = done_by_hand(book, weft, web)
                    wanted = left if place is None else None
                    self.assertEqual(done(book=book, weft=weft, web=web), wanted)
                    self.assertEqual(fails_at(book=book, weft=weft, web=web), place)
                    self.assertEqual(reader.made(web), wanted)

    def test_empty_weft(self):
        self.assertEqual(reader_of(POP, ()), unchanged("abx"))
        self.assertEqual(done(POP, (), ""), "")
        self.assertIsNone(fails_at(POP, (), "ab"))
        self.assertEqual(done(PLAIN, ("?-", "a", "?a"), ""), "a")
        self.assertEqual(fails_at(PLAIN, ("?-",), "a"), 0)

    def test_wrong(self):
        for thing in ("a", None, ("c",), ["a"], ("a", "?"), 0, POP):
            for call in (done, fails_at):
                with self.assertRaises(BadWeft) as caught:
                    call(PLAIN, thing, 7)
                self.assertIs(caught.exception.thing, thing)
            with self.assertRaises(BadWeft) as caught:
                reader_of(PLAIN, thing)
            self.assertIs(caught.exception.thing, thing)
        for thing in ("c", None, ("a",), 0, True):
            for call in (done, fails_at):
                with self.assertRaises(BadWeb) as caught:
                    call(PLAIN, ("a",), thing)
                self.assertIs(caught.exception.thing, thing)
        for thing in WRONG:
            self.assertIsInstance(is_item("ab", thing), bool)

    def test_limits(self):
        random = seeded(32)
        for book in BOOKS:
            for _ in range(10):
                weft = tuple((some_weft(random, book.letters, 8) + ("a",) * 8)[:8])
                reader = reader_of(book, weft)
                for web in (book.letters * 20)[:60], "", "a" * 60:
                    self.assertEqual(reader.made(web), done(book, weft, web))
        self.assertEqual(letters_read(reader_of(POP, ("x",) * 8)), 8)
