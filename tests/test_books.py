"""[1.1], texts of part 1, and the interface of books."""

import unittest

from millhands.books import Book, is_ahead, is_web, laid_on, led
from millhands.errors import BadBook, BadText, BadWeb
from tests.support import BOOKS, BRACKETS, MARKS, PAIRS, PLAIN, POP, TURN, WRONG, seeded, some_book, webs_to

ALPHABET = "abcdefghijklmnopqrstuvwxyz"


def laid_by_hand(folds, web, letter):
    for last, laid, left in folds:
        if web[-1:] == last and laid == letter:
            return web[:-1] + left
    return web + letter


class Books(unittest.TestCase):
    def part_of(self, letters, folds):
        with self.assertRaises(BadBook) as caught:
            Book(letters, folds)
        return caught.exception.part

    def line_of(self, text):
        with self.assertRaises(BadText) as caught:
            Book.read(text)
        return caught.exception.line

    def test_attributes(self):
        self.assertEqual(POP.letters, "abx")
        self.assertEqual(POP.folds, (("a", "x", ""), ("b", "x", "")))
        self.assertEqual(len(POP), 3)
        self.assertEqual(len(Book(ALPHABET, ())), 26)
        self.assertEqual(Book(folds=(), letters="a"), Book("a", ()))

    def test_wrong_letters_come_first(self):
        for letters in ("", "ba", "aa", "A", "a b", "-", "aB", 3, None, ["a"], ("a",), True, POP, "1"):
            self.assertEqual(self.part_of(letters, "wrong"), "letters")

    def test_wrong_folds(self):
        for folds in ([], None, "", {}, 0, POP, [("a", "x", "")]):
            self.assertEqual(self.part_of("ab", folds), "folds")

    def test_wrong_fold(self):
        good = ("a", "a", "")
        for fold in WRONG + (("a", "b"), ("a", "b", None), ("a", "b", "c"), ("c", "b", ""), ("a", "", ""), ("", "a", ""),
                             ("a", "b", "ab"), ("ab", "b", ""), ["a", "b", ""], ("a", "b", "", ""), ("a", "b", "-"),
                             ("a", "b", 0), ("a", "a", "a"), good):
            self.assertEqual(self.part_of("ab", (good, fold, 7)), 1)
        self.assertEqual(self.part_of("ab", (("b", "a", ""), ("a", "b", ""))), 1)
        self.assertEqual(self.part_of("ab", (("a", "b", ""), ("a", "b", "b"))), 1)
        self.assertEqual(self.part_of("ab", (("a", "b", ""), ("b", "a", ""), ("b", "a", ""))), 2)
        self.assertEqual(self.part_of("ab", (("a", "a", ""), ("b", "b", ""), ("a", "b", ""))), 2)

    def test_equal(self):
        self.assertTrue(POP == Book("abx", (("a", "x", ""), ("b", "x", ""))))
        self.assertFalse(POP == Book("abx", (("a", "x", ""),)))
        self.assertFalse(PLAIN == Book("abx", ()))
        self.assertTrue(POP != PLAIN)
        for thing in WRONG:
            self.assertEqual(PLAIN == thing, False)
        self.assertFalse(PLAIN == ("ab", ()))

    def test_text(self):
        self.assertEqual(str(POP), "book abx\nfold a x -\nfold b x -")
        self.assertEqual(str(MARKS), "book am\nfold m m m")
        self.assertEqual(str(PLAIN), "book ab")
        random = seeded(1)
        for letters in ("a", "ab", "abc", "mqz", ALPHABET):
            book = some_book(random, letters)
            self.assertEqual(Book.read(str(book)), book)
            self.assertEqual(Book.read(text=str(book)).folds, book.folds)

    def test_wrong_text(self):
        for thing in WRONG:
            if not isinstance(thing, str):
                self.assertEqual(self.line_of(thing), 0)
        for text in ("", "book", "book ", "book ba", "book a b", " book a", "books a", "book  a", "book a ", "book A",
                     "fold a a -", "\nbook a", "book -"):
            self.assertEqual(self.line_of(text), 1)
            self.assertEqual(self.line_of(text + "\nfold"), 1)
        for line in ("", "fold a a", "fold a a c", "fold a a - ", "fold  a a -", "fold a a ", "fold - a a", "fold ab a -",
                     "fold a a aa", "folds a a -", "fold a a !", "book ab", "none", "fold a - a", "Fold a a -"):
            self.assertEqual(self.line_of("book ab\n" + line), 2)
            self.assertEqual(self.line_of("book ab\n" + line + "\nwrong"), 2)
        self.assertEqual(self.line_of("book ab\nfold a b -\n"), 3)
        self.assertEqual(self.line_of("book ab\nfold a b -\nfold a a -"), 3)
        self.assertEqual(self.line_of("book ab\nfold a b -\nfold a b b"), 3)
        self.assertEqual(self.line_of("book ab\nfold a b -\nfold b b -\nfold b c -"), 4)
        self.assertEqual(self.line_of("book ab\nfold a b -\nfold b b -\nfold b a -"), 4)

    def test_left_of(self):
        self.assertEqual(POP.left_of("a", "x"), "")
        self.assertIsNone(POP.left_of("x", "a"))
        self.assertEqual(TURN.left_of(laid="b", last="a"), "b")

    def test_is_web(self):
        self.assertTrue(is_web("ab", ""))
        self.assertTrue(is_web(letters="ab", thing="abba" * 50))
        self.assertTrue(is_web(ALPHABET, ALPHABET))
        for thing in ("c", "ab ", "aB", "a\n", None, 0, ("a",), ["a"], POP, True, {}):
            self.assertIs(is_web("ab", thing), False)

    def test_is_ahead(self):
        self.assertTrue(is_ahead("b", "aa"))
        self.assertTrue(is_ahead("", "a"))
        self.assertTrue(is_ahead("ab", "ba"))
        self.assertFalse(is_ahead("ab", "ab"))
        self.assertFalse(is_ahead("aa", "b"))
        webs = webs_to("ab", 4)
        for one, web in enumerate(webs):
            for other, further in enumerate(webs):
                self.assertEqual(is_ahead(one=web, other=further), one < other)

    def test_examples(self):
        self.assertEqual(led(POP, "ab", "xa"), "aa")
        self.assertEqual(led(POP, "", "xx"), "xx")
        self.assertEqual(led(TURN, "a", "bb"), "bb")
        self.assertEqual(led(PAIRS, "ab", "ba"), "")
        self.assertEqual(led(MARKS, "am", "mma"), "ama")

    def test_laid_on_as_told(self):
        for book in BOOKS:
            for web in webs_to(book.letters, 3):
                for letter in book.letters:
                    wanted = laid_by_hand(book.folds, web, letter)
                    self.assertEqual(laid_on(book, web, letter), wanted)
                    self.assertEqual(led(book, web=web, row=letter + letter),
                                     laid_by_hand(book.folds, wanted, letter))
        self.assertEqual(laid_on(book=BRACKETS, web="ba", letter="b"), "b")
        self.assertEqual(led(PLAIN, "ab" * 30, ""), "ab" * 30)
        self.assertEqual(led(PLAIN, "", "ab" * 100), "ab" * 100)
        self.assertEqual(led(Book(ALPHABET, ()), "", ALPHABET), ALPHABET)

    def test_wrong_webs(self):
        for thing in ("c", 3, None, ("a",), ["a"], POP, True):
            with self.assertRaises(BadWeb) as caught:
                laid_on(PLAIN, thing, "a")
            self.assertIs(caught.exception.thing, thing)
            with self.assertRaises(BadWeb) as caught:
                led(PLAIN, thing, 7)
            self.assertIs(caught.exception.thing, thing)
            with self.assertRaises(BadWeb) as caught:
                led(PLAIN, "a", thing)
            self.assertIs(caught.exception.thing, thing)
