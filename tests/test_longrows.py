"""[9.1] to [9.3]: readers of long rows, idle letters, places that are one, and rows that are one again."""

import unittest

from millhands.books import Book, led
from millhands.errors import BadRow, BadWeb
from millhands.longrows import (are_rows_alike, does_nothing, idle_letters, judge_one, one_again, one_again_on, one_holds,
                                ones, plain_row, row_reader)
from millhands.readers import are_alike, joined, unchanged
from millhands.wefts import reader_of
from tests.support import (BOOKS, MARKS, PAIRS, PLAIN, POP, TURN, WRONG, altered, raised, seeded, some_book, some_web,
                           webs_to)


def some_row(random, letters, length):
    """A row of so many letters, some of them of a few letters again and again."""
    if random.random() < 0.3:
        part = "".join(random.choice(letters) for _ in range(random.randint(1, 4)))
        return (part * length)[:length]
    return "".join(random.choice(letters) for _ in range(length))


def cases():
    random = seeded(420)
    for book in list(BOOKS) + [some_book(random, letters) for letters in ("a", "ab", "abc", "ab", "abc") * 5]:
        for length in (0, 1, 2, 3, 5, 7):
            yield random, book, some_row(random, book.letters, length)


def without(row, place):
    return row[:place] + row[place + 1:]


class LongRows(unittest.TestCase):
    def test_examples(self):
        self.assertEqual(row_reader(POP, "xx"), reader_of(POP, ("x", "x")))
        self.assertIs(does_nothing(POP, "abxx"), True)
        self.assertEqual(idle_letters(POP, "abxx"), ())
        self.assertEqual(ones(POP, "abxx"), ((0, 4), (1, 3)))
        self.assertIs(does_nothing(PAIRS, "aa"), False)
        self.assertEqual(idle_letters(MARKS, "mm"), (0, 1))
        self.assertEqual(plain_row(MARKS, "mmam"), "mam")
        self.assertEqual(one_again(POP, "a", "b", "xb"), 1)
        self.assertEqual(one_again(MARKS, "m", "", "m"), 1)
        self.assertEqual(one_again_on(MARKS, "m", "m", "", "m"), 0)
        self.assertEqual(judge_one(TURN, "a", "b", "ab"), ("apart", ""))

    def test_readers(self):
        for random, book, row in cases():
            reader = row_reader(book=book, row=row)
            self.assertEqual(reader, reader_of(book, tuple(row)))
            self.assertTrue(reader.is_least())
            self.assertIs(does_nothing(book=book, row=row), reader == unchanged(book.letters))
            for web in webs_to(book.letters, 3) + [some_web(random, book.letters, 20)]:
                self.assertEqual(reader.made(web), led(book, web, row))
            other = some_row(random, book.letters, random.randint(0, 4))
            self.assertEqual(row_reader(book, row + other), joined(reader, row_reader(book, other)))
            self.assertIs(are_rows_alike(book=book, one=row, other=other), are_alike(reader, row_reader(book, other)))

    def test_readers_of_200_letters(self):
        random = seeded(421)
        for book in list(BOOKS) + [some_book(random, letters) for letters in ("a", "ab", "abc", "abc")]:
            row = some_row(random, book.letters, 200)
            reader = row_reader(book, row)
            self.assertLessEqual(sum(node[0] == "reads" for node in reader.nodes), 201)
            self.assertIs(are_rows_alike(book, row, row), True)
            for _ in range(5):
                web = some_web(random, book.letters, 200)
                self.assertEqual(reader.made(web), led(book, web, row))
        self.assertEqual(len(row_reader(PAIRS, "ab" * 100)), len(reader_of(PAIRS, tuple("ab" * 100))))

    def test_idle_letters(self):
        many = 0
        for _, book, row in cases():
            reader = row_reader(book, row)
            idle = tuple(place for place in range(len(row)) if row_reader(book, without(row, place)) == reader)
            self.assertEqual(idle_letters(book=book, row=row), idle)
            many += len(idle)
            plain, left = row, list(idle)
            while left:
                plain = without(plain, left[0])
                left = [place for place in range(len(plain)) if row_reader(book, without(plain, place)) == reader]
            self.assertEqual(plain_row(book=book, row=row), plain)
            self.assertIs(are_rows_alike(book, row, plain), True)
            self.assertEqual(idle_letters(book, plain), ())
        self.assertGreater(many, 20)

    def test_idle_letters_of_40(self):
        random = seeded(422)
        for book in list(BOOKS) + [some_book(random, letters) for letters in ("ab", "abc")]:
            row = some_row(random, book.letters, 40)
            plain = plain_row(book, row)
            self.assertIs(are_rows_alike(book, row, plain), True)
            self.assertEqual(idle_letters(book, plain), ())
            for place in idle_letters(book, row):
                self.assertIs(are_rows_alike(book, row, without(row, place)), True)
        self.assertEqual(plain_row(MARKS, "m" * 40), "m")
        # Not as short as can be: its places are one, but no letter alone is idle.
        self.assertEqual(plain_row(TURN, "ba" * 20), "ba" * 20)
        self.assertIs(are_rows_alike(TURN, "ba" * 20, "ba"), True)

    def test_ones(self):
        many = 0
        for _, book, row in cases():
            readers = [row_reader(book, row[:place]) for place in range(len(row) + 1)]
            pairs = []
            for place, reader in enumerate(readers):
                further = [at for at in range(place + 1, len(readers)) if readers[at] == reader]
                pairs.extend((place, at) for at in further[:1])
                for at in further:
                    self.assertIs(are_rows_alike(book, row, row[:place] + row[at:]), True)
            self.assertEqual(ones(book=book, row=row), tuple(pairs))
            many += len(pairs)
        self.assertGreater(many, 20)
        self.assertEqual(ones(POP, ""), ())
        self.assertEqual(ones(MARKS, "mmm"), ((1, 2), (2, 3)))

    def test_one_again(self):
        kinds = set()
        for random, book, one in cases():
            for _ in range(3):
                other = some_row(random, book.letters, random.randint(0, 4))
                tail = some_row(random, book.letters, random.randint(0, 6))
                found = [many for many in range(len(tail) + 1)
                         if row_reader(book, one + tail[:many]) == row_reader(book, other + tail[:many])]
                # Once they are one again, they stay so.
                self.assertEqual(found, list(range(len(tail) + 1 - len(found), len(tail) + 1)))
                least = found[0] if found else None
                self.assertEqual(one_again(book=book, one=one, other=other, tail=tail), least)
                paper = judge_one(book=book, one=one, other=other, tail=tail)
                kinds.add((paper[0], least == 0))
                self.assertIs(one_holds(book=book, one=one, other=other, tail=tail, thing=paper), True)
                self.assertEqual(paper[0], "apart" if least is None else "one")
                apart = [web for web in webs_to(book.letters, 5 if len(book) < 3 else 4)
                         if led(book, web, one + tail) != led(book, web, other + tail)]
                if least is not None:
                    self.assertEqual(paper, ("one", least))
                    self.assertEqual(apart, [])
                elif apart:
                    self.assertEqual(paper, ("apart", apart[0]))
                else:
                    self.assertGreater(len(paper[1]), 3)
                for many in range(len(tail) + 1):
                    self.assertIs(one_holds(book, one, other, tail, ("one", many)), many in found)
                for web in webs_to(book.letters, 2):
                    parted = led(book, web, one + tail) != led(book, web, other + tail)
                    self.assertIs(one_holds(book, one, other, tail, ("apart", web)), parted)
        self.assertEqual(len(kinds), 3)

    def test_one_again_on_a_web(self):
        kinds = set()
        for random, book, one in cases():
            other = some_row(random, book.letters, random.randint(0, 4))
            tail = some_row(random, book.letters, random.randint(0, 6))
            for web in webs_to(book.letters, 2):
                found = [many for many in range(len(tail) + 1)
                         if led(book, web, one + tail[:many]) == led(book, web, other + tail[:many])]
                self.assertEqual(one_again_on(book=book, web=web, one=one, other=other, tail=tail),
                                 found[0] if found else None)
                kinds.add(found[0] if found else None)
        self.assertTrue({None, 0, 1, 2} <= kinds)

    def test_long_tails(self):
        random = seeded(423)
        for book in list(BOOKS) + [some_book(random, letters) for letters in ("ab", "abc", "ab", "abc")]:
            one, other = some_row(random, book.letters, 40), some_row(random, book.letters, 39)
            tail = some_row(random, book.letters, 160)
            paper = judge_one(book, one, other, tail)
            self.assertIs(one_holds(book, one, other, tail, paper), True)
            web = some_web(random, book.letters, 200)
            if paper[0] == "one":
                self.assertLessEqual(one_again_on(book, web, one, other, tail), paper[1])
            many = one_again_on(book, web, one, other, tail)
            if many is not None:
                self.assertEqual(led(book, web, one + tail[:many]), led(book, web, other + tail[:many]))
        # Each letter that is eaten brings both one step nearer, until all is gone.
        self.assertEqual(one_again(POP, "a" * 99, "b" * 99, "x" * 101), 99)
        self.assertIsNone(one_again(POP, "a" * 99, "b" * 99, "x" * 98))
        self.assertEqual(judge_one(POP, "a" * 99, "b" * 99, "x" * 98), ("apart", ""))
        self.assertEqual(judge_one(POP, "x" * 100, "x" * 99, "x" * 100), ("apart", ""))
        # Only a web of many letters parts them.
        book = Book("ab", (("a", "a", ""), ("b", "a", "b")))
        self.assertEqual(judge_one(book, "a" * 50, "a" * 52, "b"), ("apart", "a" * 52))
        self.assertEqual(judge_one(MARKS, "m" * 100, "", "m" * 100), ("one", 1))

    def test_wrong_rows(self):
        for thing in WRONG:
            if isinstance(thing, str) and set(thing) <= set("abx"):
                continue
            for call in (lambda: row_reader(POP, thing), lambda: does_nothing(POP, thing), lambda: idle_letters(POP, thing),
                         lambda: plain_row(POP, thing), lambda: ones(POP, thing), lambda: are_rows_alike(POP, thing, 1),
                         lambda: are_rows_alike(POP, "a", thing), lambda: one_again(POP, thing, 1, 1),
                         lambda: one_again(POP, "a", thing, 1), lambda: one_again(POP, "a", "b", thing),
                         lambda: one_again_on(POP, "?", thing, 1, 1), lambda: one_again_on(POP, "?", "a", thing, 1),
                         lambda: one_again_on(POP, 1, "a", "b", thing), lambda: judge_one(POP, thing, 1, 1),
                         lambda: judge_one(POP, "a", thing, 1), lambda: judge_one(POP, "", "", thing),
                         lambda: one_holds(POP, thing, 1, 1, ("one", 0)), lambda: one_holds(POP, "", thing, 1, None),
                         lambda: one_holds(POP, "", "", thing, None)):
                self.assertIs(raised(BadRow, call).thing, thing)
            self.assertIs(raised(BadWeb, lambda: one_again_on(POP, thing, "a", "b", "x")).thing, thing)
        # The longer letters of a greater book are none of this one.
        self.assertEqual(raised(BadRow, lambda: row_reader(PLAIN, "abx")).thing, "abx")

    def test_wrong_papers(self):
        for thing in WRONG:
            for paper in (thing, [thing], (thing, 0), ("one", 0, thing), ("apart", "", thing), ("none", thing)):
                self.assertIs(one_holds(POP, "a", "a", "b", paper), False)
            right = isinstance(thing, int) and not isinstance(thing, bool) and thing in (0, 1)
            self.assertIs(one_holds(POP, "a", "a", "b", ("one", thing)), right)
            right = isinstance(thing, str) and set(thing) <= set("abx")
            self.assertIs(one_holds(POP, "a", "b", "b", ("apart", thing)), right)
        self.assertIs(one_holds(POP, "a", "a", "b", ("one", 2)), False)
        self.assertIs(one_holds(POP, "a", "a", "b", ("one", -1)), False)
        for one, other in (("a", "b"), ("a", "x")):
            paper = judge_one(POP, one, other, "xb")
            for thing in altered(paper):
                right = repr(thing) in (repr(paper), "('one', 2)")
                self.assertIs(one_holds(POP, one, other, "xb", thing), right and paper[0] == "one" or
                              repr(thing) == repr(paper), thing)


if __name__ == "__main__":
    unittest.main()
