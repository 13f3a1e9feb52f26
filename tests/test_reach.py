"""[1.2] to [1.5] and the interface of reach, beside all rows gone through one by one."""

import unittest

from millhands.books import Book, led
from millhands.errors import BadWeb
from millhands.reach import (built_on, can_go, can_reach, first_row, going_holds, going_row, judge_going, judge_reach,
                             reach_holds, settled, turned_into)
from tests.support import BOOKS, BRACKETS, MARKS, PAIRS, PLAIN, POP, TURN, WRONG, altered, seeded, some_book, webs_to

CHAIN = Book("abc", (("a", "b", "b"), ("b", "c", "c"), ("c", "a", "")))
LOOP = Book("ab", (("a", "a", "a"), ("a", "b", "a"), ("b", "a", "")))


def all_books():
    random = seeded(2)
    return list(BOOKS) + [CHAIN, LOOP] + [some_book(random, letters) for letters in ("a", "ab", "abc") * 8]


def rows_from(book, web, length, most):
    """For each web of at most so many letters that is reached the first row; webs on the way have at most most."""
    found = {web: ""}
    level = [web]
    while level:
        fresh = []
        for one in level:
            for letter in book.letters:
                other = led(book, one, letter)
                if other not in found and len(other) <= most:
                    found[other] = found[one] + letter
                    fresh.append(other)
        level = fresh
    return {one: row for one, row in found.items() if len(one) <= length}


def settled_by_hand(book, web):
    reached = list(rows_from(book, web, len(web) + 2, len(web) + 2))
    for many in range(len(web), -1, -1):
        if all(other[:many] == web[:many] for other in reached):
            return many
    return 0


class Reach(unittest.TestCase):
    def test_examples(self):
        self.assertEqual(going_row(POP, "a"), "x")
        self.assertEqual(judge_going(POP, "x"), ("stays", "x"))
        self.assertEqual(turned_into(TURN, "a"), "ab")
        self.assertEqual(built_on(TURN, "a"), "ab")
        self.assertEqual(built_on(POP, "a"), "ab")
        self.assertEqual(built_on(POP, "x"), "abx")
        self.assertEqual(first_row(POP, "ab", "ba"), "xxba")
        self.assertEqual(judge_reach(POP, "xa", "a"), ("barred", (("stays", 0), ("turn", 0))))
        self.assertEqual(first_row(TURN, "ab", "aab"), "aab")
        self.assertEqual(settled(POP, "axb"), 2)
        self.assertEqual(settled(TURN, "ab"), 1)
        self.assertEqual(settled(PAIRS, "ab"), 0)
        self.assertEqual(settled(MARKS, "am"), 2)

    def test_going(self):
        self.assertEqual(going_row(CHAIN, "a"), "bca")
        self.assertIsNone(going_row(PLAIN, "a"))
        self.assertTrue(can_go(book=CHAIN, letter="b"))
        self.assertFalse(can_go(LOOP, "a"))
        for book in all_books():
            for letter in book.letters:
                rows = {row: True for row in webs_to(book.letters, 4) if row and goes_by(book, letter, row)}
                self.assertEqual(going_row(book, letter), next(iter(rows), None))
                self.assertEqual(can_go(book, letter), bool(rows))
                for row in webs_to(book.letters, 4):
                    self.assertEqual(going_holds(book, letter, ("goes", row)), row in rows)

    def test_going_papers(self):
        for book in all_books():
            for letter in book.letters:
                paper = judge_going(book, letter)
                self.assertIs(going_holds(book, letter, paper), True)
                lots = [lot for lot in webs_to(book.letters, 3) if going_holds(book, letter, ("stays", lot))]
                self.assertEqual(lots != [], paper[0] == "stays")
                for lot in lots:
                    self.assertEqual(list(lot), sorted(set(lot)))
                    self.assertIn(letter, lot)
                for thing in altered(paper):
                    held = going_holds(book, letter, thing)
                    self.assertEqual(held, thing in [("goes", row) for row in webs_to(book.letters, 4)
                                                     if goes_by(book, letter, row)] or thing in [("stays", lot)
                                                                                                for lot in lots])
        for thing in WRONG + (("goes", None), ("stays", None), ("stays", ("x",)), ("goes", ["x"]), ["goes", "x"]):
            self.assertIs(going_holds(POP, "a", thing), False)
            self.assertIs(going_holds(book=POP, letter="x", thing=thing), False)
        self.assertFalse(going_holds(POP, "x", ("stays", "xx")))
        self.assertFalse(going_holds(POP, "x", ("stays", "")))
        self.assertFalse(going_holds(TURN, "a", ("stays", "ba")))
        self.assertFalse(going_holds(POP, "x", ("stays", "xz")))

    def test_turned_and_built(self):
        for book in all_books():
            for letter in book.letters:
                turned = {letter}
                for _ in book.letters:
                    turned |= {left for last, _, left in book.folds if last in turned and left}
                self.assertEqual(turned_into(book, letter), "".join(sorted(turned)))
            for last in list(book.letters) + [""]:
                built = set()
                for laid in book.letters:
                    if last == "" or book.left_of(last, laid) is None:
                        built |= set(turned_into(book, laid))
                self.assertEqual(built_on(book, last), "".join(sorted(built)))

    def test_reach_beside_all_rows(self):
        for book in all_books():
            webs = webs_to(book.letters, 2 if len(book) == 3 else 3)
            for web in webs:
                rows = rows_from(book, web, 3, 5)
                for other in webs:
                    row = first_row(book, web, other)
                    self.assertEqual(row, rows.get(other), (str(book), web, other))
                    self.assertEqual(can_reach(book, web, other), row is not None)
                    paper = judge_reach(book, web, other)
                    self.assertEqual(paper[0], "barred" if row is None else "reach")
                    self.assertTrue(reach_holds(book, web, other, paper))

    def test_first_row_is_first(self):
        for book in all_books():
            for web in webs_to(book.letters, 2):
                seen = {}
                for row in webs_to(book.letters, 4):
                    seen.setdefault(led(book, web, row), row)
                for other, row in seen.items():
                    self.assertEqual(first_row(book, web, other), row)

    def test_barred_papers(self):
        for book in all_books():
            webs = webs_to(book.letters, 2)
            for web in webs:
                for other in webs:
                    row = first_row(book, web, other)
                    paper = judge_reach(book, web, other)
                    for thing in altered(paper):
                        if reach_holds(book, web, other, thing):
                            self.assertEqual(thing[0], paper[0])
                            self.assertIsInstance(thing, tuple)
                    if row is None:
                        self.assertFalse(reach_holds(book, web, other, ("barred", paper[1] + paper[1][-1:])))
                        self.assertFalse(reach_holds(book, web, other, ("barred", paper[1][:-1])))
                    else:
                        self.assertFalse(reach_holds(book, web, other, ("barred", ())))

    def test_rows_that_lead_elsewhere(self):
        for book in all_books()[:12]:
            webs = webs_to(book.letters, 2)
            for web in webs:
                for row in webs_to(book.letters, 3):
                    for other in webs:
                        self.assertIs(reach_holds(book, web, other, ("reach", row)), led(book, web, row) == other)

    def test_reasons_beside_the_document(self):
        for book in all_books():
            webs = webs_to(book.letters, 3 if len(book) < 3 else 2)
            for web in webs:
                for other in webs:
                    paper = judge_reach(book, web, other)
                    if paper[0] == "reach":
                        continue
                    for level in range(len(paper[1])):
                        for word in ("apart", "stays", "turn", "build"):
                            for place in range(-1, 4):
                                reasons = paper[1][:level] + ((word, place),) + paper[1][level + 1:]
                                wanted = is_reason_by_hand(book, web, other, level, word, place)
                                self.assertIs(reach_holds(book, web, other, ("barred", reasons)), wanted)

    def test_reasons(self):
        self.assertTrue(reach_holds(PLAIN, "ab", "ba", ("barred", (("stays", 0), ("stays", 1), ("apart", 0)))))
        self.assertTrue(reach_holds(PLAIN, "ab", "ba", ("barred", (("stays", 1), ("turn", 0), ("turn", 1)))))
        self.assertFalse(reach_holds(PLAIN, "ab", "ba", ("barred", (("stays", 1), ("turn", False), ("turn", 1)))))
        self.assertFalse(reach_holds(PLAIN, "ab", "ba", ("barred", (("stays", 2), ("turn", 0), ("turn", 1)))))
        self.assertFalse(reach_holds(PLAIN, "ab", "ba", ("barred", (("stays", 1), ("stays", 0), ("turn", 1)))))
        self.assertFalse(reach_holds(PLAIN, "ab", "ba", ("barred", (("stays", 1), ("apart", 0), ("turn", 1)))))
        self.assertFalse(reach_holds(PLAIN, "ab", "ba", ("barred", (("turn", -1), ("turn", 0), ("turn", 1)))))
        self.assertTrue(reach_holds(BRACKETS, "", "ab", ("barred", (("build", 1),))))
        self.assertFalse(reach_holds(BRACKETS, "", "ab", ("barred", (("build", 0),))))
        self.assertFalse(reach_holds(BRACKETS, "", "ab", ("barred", [("build", 1)])))
        self.assertFalse(reach_holds(BRACKETS, "", "ab", ("barred", (["build", 1],))))
        self.assertTrue(reach_holds(POP, "a", "a", ("reach", "bxbx")))
        self.assertFalse(reach_holds(POP, "a", "a", ("reach", "z")))

    def test_settled(self):
        for book in all_books():
            for web in webs_to(book.letters, 3):
                self.assertEqual(settled(book, web), settled_by_hand(book, web), (str(book), web))
        self.assertEqual(settled(PLAIN, ""), 0)
        self.assertEqual(settled(book=PLAIN, web="ab"), 2)

    def test_long_webs(self):
        web, other = "ab" * 30, "ba" * 30
        row = first_row(POP, web, other)
        self.assertEqual(row, "x" * 60 + other)
        self.assertEqual(led(POP, web, row), other)
        self.assertTrue(reach_holds(POP, web, other, ("reach", row)))
        self.assertEqual(first_row(POP, web, web[:59] + "a"), "xa")
        for book in (PLAIN, TURN, CHAIN, BRACKETS):
            for one, further in ((web, other), (web, web), ("", web), (web, "")):
                paper = judge_reach(book, one, further)
                self.assertTrue(reach_holds(book, one, further, paper))
        self.assertEqual(settled(PAIRS, web), 0)
        self.assertEqual(settled(PLAIN, web), 60)

    def test_wrong_webs(self):
        for call in (can_reach, first_row, judge_reach, lambda *args: reach_holds(*args, 3)):
            for thing in ("c", 3, None, ("a",), True, POP):
                with self.assertRaises(BadWeb) as caught:
                    call(PLAIN, thing, 7)
                self.assertIs(caught.exception.thing, thing)
                with self.assertRaises(BadWeb) as caught:
                    call(PLAIN, "a", thing)
                self.assertIs(caught.exception.thing, thing)
        with self.assertRaises(BadWeb) as caught:
            settled(PLAIN, "abc")
        self.assertEqual(caught.exception.thing, "abc")
        for thing in WRONG + (("reach", 1), ("barred", 1), ("barred", (1,)), ("reach", ("x",)), ("barred", ((1, 1),))):
            self.assertIs(reach_holds(POP, "a", "xa", thing), False)
            self.assertIs(reach_holds(book=POP, web="a", other="b", thing=thing), False)


def goes_by(book, letter, row):
    """Whether a row is a going row, told by what it does beneath other letters."""
    standing = letter
    for at, laid in enumerate(row):
        left = book.left_of(standing, laid)
        if left is None or (left == "") != (at == len(row) - 1):
            return False
        standing = left
    return row != ""


def is_reason_by_hand(book, web, other, level, word, place):
    """Whether a pair tells why a web does not reach another one at a level, as [1.4] says it."""
    if word == "apart":
        return 0 <= place < level - 1 and web[place] != other[place]
    if word == "stays":
        return level <= place < len(web) and going_row(book, web[place]) is None
    if word == "turn":
        return level > 0 and place == level - 1 and other[place] not in turned_into(book, web[place])
    if not level <= place < len(other):
        return False
    return other[place] not in built_on(book, other[place - 1] if place else "")
