"""[7.3]: rows that undo a reader or mend a day, and papers, beside all rows on short webs."""

import unittest

from millhands.books import led
from millhands.errors import OtherLetters
from millhands.opposites import judge_one_one
from millhands.readers import Reader, unchanged
from millhands.takingback import can_lots_go, day_reader, rest_of
from millhands.tellers import all_webs, ending, lone_web, no_webs
from millhands.undoing import does_undo, judge_undoing, mending_row, undoing_holds, undoing_row
from millhands.wefts import reader_of
from tests.support import (BOOKS, PLAIN, POP, WRONG, X, altered, raised, seeded, some_book, some_ends, some_reader,
                           some_weft, webs_to)
from tests.test_takingback import DAY

LAY = reader_of(POP, ("a",))


def cases():
    random = seeded(360)
    for book in list(BOOKS) + [some_book(random, letters) for letters in ("a", "ab", "abc") * 4]:
        for turn in range(6):
            reader = reader_of(book, some_weft(random, book.letters, 3))
            if turn > 3:
                reader = some_reader(random, book.letters, 4)
            ends = random.choice([None, some_ends(random, book.letters, 4), ending(book.letters, book.letters[0])])
            yield book, reader, random.randint(0, 3), ends


def asked(book, ends):
    return [web for web in webs_to(book.letters, 5 if len(book) < 3 else 3) if ends is None or ends.says(web)]


def undoes(book, reader, row, webs):
    return all(reader.made(web) is None or led(book, reader.made(web), row) == web for web in webs)


class Undoing(unittest.TestCase):
    def test_examples(self):
        self.assertEqual(undoing_row(POP, LAY, 2), "x")
        self.assertIsNone(undoing_row(POP, X, 4))
        paper = judge_undoing(POP, X, 0)
        self.assertEqual(paper[0], "none")
        self.assertIs(undoing_holds(POP, X, 0, paper), True)
        self.assertIs(undoing_holds(POP, X, 0, ("none", (("", ""),))), True)
        self.assertEqual(mending_row(POP, DAY, (2,), 1), "x")
        self.assertEqual(mending_row(POP, DAY, (1,), 1), "a")
        self.assertEqual(judge_undoing(POP, LAY, 2), ("undone", "x"))

    def test_beside_all_rows(self):
        kinds = set()
        for book, reader, most, ends in cases():
            webs = asked(book, ends)
            rows = webs_to(book.letters, most)
            right = [row for row in rows if undoes(book, reader, row, webs)]
            for row in rows:
                found = does_undo(book=book, reader=reader, row=row, ends=ends)
                self.assertIs(found, row in right)
                self.assertIs(undoing_holds(book, reader, most, ("undone", row), ends=ends), found)
            first = undoing_row(book=book, reader=reader, most=most, ends=ends)
            self.assertEqual(first, right[0] if right else None)
            paper = judge_undoing(book=book, reader=reader, most=most, ends=ends)
            kinds.add(paper[0])
            self.assertIs(undoing_holds(book=book, reader=reader, most=most, thing=paper, ends=ends), True)
            if right:
                self.assertEqual(paper, ("undone", first))
                self.assertIs(undoing_holds(book, reader, most, ("undone", first + book.letters * 9), ends=ends), False)
                continue
            self.assertEqual([row for row, _ in paper[1]], rows)
            for row, web in paper[1]:
                self.assertTrue(ends is None or ends.says(web))
                self.assertFalse(reader.made(web) is None or led(book, reader.made(web), row) == web)
            for part in (paper[1][1:], paper[1][:-1], paper[1] + paper[1][-1:], paper[1][::-1] if most else ()):
                self.assertIs(undoing_holds(book, reader, most, ("none", part), ends=ends), False)
        self.assertEqual(kinds, {"undone", "none"})

    def test_other_webs_in_papers(self):
        """Any web does that shows it, and none that is not asked about or does not fit."""
        told = set()
        for book, reader, _, ends in cases():
            for web in webs_to(book.letters, 3):
                wanted = (ends is None or ends.says(web)) and reader.made(web) not in (None, web)
                told.add(wanted)
                self.assertIs(undoing_holds(book, reader, 0, ("none", (("", web),)), ends=ends), wanted)
        self.assertEqual(told, {True, False})

    def test_merged(self):
        told = set()
        for book, reader, most, ends in cases():
            webs = webs_to(book.letters, 2)
            paper = judge_one_one(reader)
            for web in webs + [paper[1]] if paper[0] == "merged" else webs:
                for further in webs + [paper[2]] if paper[0] == "merged" else webs:
                    wanted = web != further and reader.made(web) is not None and reader.made(web) == reader.made(further)
                    wanted = wanted and (ends is None or (ends.says(web) and ends.says(further)))
                    told.add(wanted)
                    self.assertIs(undoing_holds(book, reader, most, ("merged", web, further), ends=ends), wanted)
                    if wanted:
                        self.assertIsNone(undoing_row(book, reader, most, ends=ends))
        self.assertEqual(told, {True, False})

    def test_no_webs(self):
        """Where nothing is asked about, or nothing fits, the empty row does."""
        for book in BOOKS:
            reader = reader_of(book, (book.letters[0],))
            for given, ends in ((reader, no_webs(book.letters)), (Reader(book.letters, (("none",),)), None)):
                self.assertEqual(judge_undoing(book, given, 0, ends=ends), ("undone", ""))
                self.assertIs(does_undo(book, given, book.letters, ends=ends), True)
            self.assertEqual(undoing_row(book, unchanged(book.letters), 3), "")
            self.assertEqual(mending_row(book, (("?-",), ("?" + book.letters[0],)), (0,), 0), "")

    def test_mending_beside_all_rows(self):
        random = seeded(361)
        found = set()
        for book in list(BOOKS) + [some_book(random, letters) for letters in ("a", "ab", "abc") * 5]:
            for _ in range(5):
                day = tuple(some_weft(random, book.letters, 2) for _ in range(random.randint(1, 4)))
                numbers = tuple(number for number in range(len(day)) if random.random() < 0.4)
                ends = random.choice([None, None, some_ends(random, book.letters, 4), lone_web(book.letters, "")])
                whole, rest = day_reader(book, day), day_reader(book, rest_of(day, numbers))
                webs = [web for web in asked(book, ends) if whole.made(web) is not None]
                right = [row for row in webs_to(book.letters, 3)
                         if all(rest.made(web) is not None and led(book, whole.made(web), row) == rest.made(web)
                                for web in webs)]
                if not can_lots_go(book, day, numbers, ends=ends):
                    right = []
                row = mending_row(book=book, day=day, numbers=numbers, most=3, ends=ends)
                found.add(row is None)
                self.assertEqual(row, right[0] if right else None)
        self.assertEqual(found, {True, False})

    def test_altered_papers(self):
        for paper, reader, most in ((("undone", "x"), LAY, 2), (judge_undoing(POP, X, 1), X, 1),
                                    (judge_undoing(PLAIN, reader_of(PLAIN, ("a",)), 1), reader_of(PLAIN, ("a",)), 1)):
            book = POP if reader.letters == "abx" else PLAIN
            for thing in altered(paper):
                told = undoing_holds(book, reader, most, thing)
                if told and repr(thing) != repr(paper):
                    self.assertEqual((thing[0], [row for row, _ in thing[1]]), ("none", [row for row, _ in paper[1]]))
                    for row, web in thing[1]:
                        self.assertNotEqual(led(book, reader.made(web), row), web)

    def test_wrong_values(self):
        for thing in WRONG:
            for paper in (thing, ("undone", thing), ("none", thing), ("none", (thing,)), ("none", (("", thing),)),
                          ("none", ((thing, ""),)), ("merged", thing, "a"), ("merged", "a", thing), (thing, "x"),
                          ("none", (("", ""), thing)), ("undone", "x", thing)):
                right = isinstance(thing, str) and set(thing) <= set("abx") and paper == ("none", (("", thing),))
                self.assertIs(undoing_holds(POP, LAY, 0, paper), right or repr(paper) == "('none', (('', ''),))", paper)

    def test_other_letters(self):
        ends = all_webs("ab")
        other = unchanged("ab")
        for reader, given in ((LAY, ends), (other, None), (other, ends)):
            for call in (lambda: does_undo(POP, reader, "", ends=given), lambda: undoing_row(POP, reader, 1, ends=given),
                         lambda: judge_undoing(POP, reader, 1, ends=given),
                         lambda: undoing_holds(POP, reader, 1, 0, ends=given)):
                raised(OtherLetters, call)
        raised(OtherLetters, lambda: mending_row(POP, DAY, (0,), 1, ends=ends))

    def test_limits(self):
        random = seeded(362)
        for book, most in ((PLAIN, 6), (POP, 4), (some_book(random, "ab"), 6), (some_book(random, "abc"), 4)):
            for reader in (reader_of(book, some_weft(random, book.letters, 8)), some_reader(random, book.letters, 12, 6)):
                for ends in (None, some_ends(random, book.letters, 12)):
                    paper = judge_undoing(book, reader, most, ends=ends)
                    self.assertIs(undoing_holds(book, reader, most, paper, ends=ends), True)
        long_row = "x" * 200
        self.assertIs(does_undo(POP, reader_of(POP, ("a",) * 8), "x" * 8), True)
        self.assertIs(does_undo(POP, reader_of(POP, ("a",) * 8), long_row), False)


if __name__ == "__main__":
    unittest.main()
