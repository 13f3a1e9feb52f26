"""[7.2]: readers that are one-one, their opposites, and papers of both kinds."""

import unittest

from millhands.errors import Merged
from millhands.opposites import is_one_one, judge_one_one, one_one_holds, opposite
from millhands.readers import Reader, joined, unchanged
from millhands.tables import program_reader
from millhands.wefts import reader_of
from tests.support import (BOOKS, PAIRS, POP, WRONG, X, altered, raised, seeded, some_book, some_program, some_reader,
                           some_weft, webs_to)

NOTHING = Reader("ab", (("none",),))


def readers():
    random = seeded(350)
    yield from [X, NOTHING, unchanged("ab"), unchanged("abx"), reader_of(POP, ("a",)), reader_of(PAIRS, ("a",))]
    for turn in range(150):
        letters = ("a", "ab", "abc")[turn % 3]
        yield some_reader(random, letters, random.randint(1, 7))
        book = some_book(random, letters)
        yield reader_of(book, some_weft(random, letters, 6))
        if turn % 5 == 0:
            yield program_reader(book, some_program(random, letters, 5))
    for book in BOOKS:
        for letter in book.letters:
            yield reader_of(book, (letter,))


def lefts(reader):
    return {web: reader.made(web) for web in webs_to(reader.letters, 6 if len(reader.letters) < 3 else 4)
            if reader.made(web) is not None}


class Opposites(unittest.TestCase):
    def test_examples(self):
        self.assertEqual(opposite(reader_of(POP, ("a",))),
                         Reader("abx", (("reads", None, 1, 2, 2), ("stops", ""), ("none",))))
        self.assertEqual(judge_one_one(X)[0], "merged")
        self.assertIs(one_one_holds(X, ("merged", "a", "b")), True)
        self.assertIs(one_one_holds(X, judge_one_one(X)), True)
        self.assertEqual(opposite(NOTHING), NOTHING)
        self.assertEqual(opposite(unchanged("ab")), unchanged("ab"))

    def test_beside_single_webs(self):
        kinds = set()
        for reader in readers():
            left = lefts(reader)
            paper = judge_one_one(reader=reader)
            kinds.add(paper[0])
            self.assertIs(is_one_one(reader=reader), paper[0] == "opposite")
            self.assertIs(one_one_holds(reader=reader, thing=paper), True)
            if paper[0] == "merged":
                web, further = paper[1:]
                self.assertNotEqual(web, further)
                self.assertIsNotNone(reader.made(web))
                self.assertEqual(reader.made(web), reader.made(further))
                error = raised(Merged, lambda: opposite(reader))
                self.assertEqual(reader.made(error.web), reader.made(error.further))
                self.assertIs(one_one_holds(reader, ("merged", error.web, error.further)), True)
                continue
            self.assertEqual(len(set(left.values())), len(left))
            back = opposite(reader=reader)
            self.assertEqual(back, paper[1])
            self.assertTrue(back.is_least())
            for web, made in left.items():
                self.assertEqual(back.made(made), web)
            for web, made in lefts(back).items():
                self.assertEqual(reader.made(made), web)
            # The opposite of the opposite does what the reader does, and both joined leave all as it was.
            self.assertEqual(opposite(back), reader.least())
            for web in left:
                self.assertEqual(joined(reader, back).made(web), web)
        self.assertEqual(kinds, {"opposite", "merged"})

    def test_merged_webs(self):
        for reader in readers():
            left = lefts(reader)
            for web in list(left)[:12]:
                for further in webs_to(reader.letters, 2):
                    wanted = web != further and left[web] == reader.made(further)
                    self.assertIs(one_one_holds(reader, ("merged", web, further)), wanted)
                    self.assertIs(one_one_holds(reader, ("merged", further, web)), wanted)

    def test_merged_by_words(self):
        """Ways apart, but a word that stands as the end of another one, or of what a bare web leaves."""
        ways = (Reader("ab", (("reads", None, 1, 2), ("stops", "b"), ("stops", "ab"))),
                Reader("ab", (("reads", "ab", 1, 2), ("stops", "b"), ("none",))),
                Reader("ab", (("reads", "a", 1, 2), ("reads", "a", 2, 2), ("none",))),
                Reader("ab", (("reads", None, 1, 2), ("stops", "b"), ("stops", "b"))),
                Reader("ab", (("reads", None, 0, 1), ("stops", ""))))
        for reader in ways:
            self.assertIs(is_one_one(reader), False)
            self.assertIs(one_one_holds(reader, judge_one_one(reader)), True)
        apart = Reader("ab", (("reads", "a", 1, 2), ("stops", "ab"), ("stops", "bb")))
        self.assertIs(is_one_one(apart), True)
        self.assertEqual(opposite(apart), Reader("ab", (("reads", None, 1, 2), ("reads", "", 3, 3),
                                                        ("reads", None, 4, 5), ("none",), ("stops", "a"), ("stops", "b"))))

    def test_useless_rings_and_nodes(self):
        """Rings and ways that make nothing of any web count for nothing."""
        reader = Reader("ab", (("reads", None, 1, 2), ("stops", "b"), ("reads", None, 2, 3), ("reads", None, 2, 2)))
        self.assertIs(is_one_one(reader), True)
        self.assertEqual(opposite(reader), Reader("ab", (("reads", None, 1, 2), ("none",), ("stops", "a"))))

    def test_opposites_made_by_hand(self):
        lay = reader_of(POP, ("a",))
        far = Reader("abx", (("reads", None, 1, 2, 2), ("reads", "", 3, 4, 5), ("none",), ("stops", "a"), ("stops", "b"),
                             ("stops", "x")))
        self.assertIs(one_one_holds(lay, ("opposite", far)), True)
        for other in (lay, X, unchanged("abx"), Reader("ab", (("none",),)), Reader("abx", (("none",),)),
                      Reader("abx", (("reads", "", 1, 2, 2), ("stops", ""), ("none",)))):
            self.assertIs(one_one_holds(lay, ("opposite", other)), False)
            self.assertIs(one_one_holds(X, ("opposite", other)), False)

    def test_wrong_values(self):
        lay = reader_of(POP, ("a",))
        for reader in (X, lay):
            paper = judge_one_one(reader)
            for thing in WRONG:
                for other in (thing, ("opposite", thing), ("merged", thing, "b"), ("merged", "a", thing),
                              ("opposite", paper[1], thing), ("merged", "a", "b", thing), (thing, *paper[1:])):
                    right = reader is X and repr(other) == "('merged', 'a', 'b')"
                    self.assertIs(one_one_holds(reader, other), right, other)
            for thing in altered(paper):
                right = repr(thing) == repr(paper)
                self.assertIs(one_one_holds(reader, thing), right, thing)


if __name__ == "__main__":
    unittest.main()
