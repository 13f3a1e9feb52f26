"""[3.1], [3.2] and the interface of passing."""

import unittest

from millhands.errors import OtherLetters
from millhands.passing import do_pass, first_barred, judge_passing, passing_holds, passing_set
from millhands.readers import Reader, unchanged
from millhands.tellers import (Teller, all_webs, both, but_not, ending, first_web, is_end_set, lone_web, no_webs)
from millhands.wefts import reader_of
from tests.support import (BOOKS, PLAIN, POP, WRONG, X, altered, seeded, some_ends, some_reader, some_web, some_weft,
                           webs_to)

WORDS = ("forward", "ahead", "even")


def passes_by_hand(word, one, other, web):
    """[3.1], on one web."""
    left, right = one.made(web), other.made(web)
    onward = None if left is None else other.made(left)
    backward = None if right is None else one.made(right)
    same = onward is not None and onward == backward
    if word == "forward":
        return left is None or right is None or same
    if word == "ahead":
        return backward is None or same
    return same or (onward is None and backward is None)


class Passing(unittest.TestCase):
    def test_examples(self):
        look, lay = reader_of(POP, ("?a",)), reader_of(POP, ("b",))
        self.assertEqual(first_barred("forward", look, lay), "a")
        self.assertTrue(do_pass("ahead", look, lay))
        self.assertFalse(do_pass("ahead", lay, look))
        self.assertTrue(do_pass("even", reader_of(POP, ("a", "x")), reader_of(POP, ("a",))))

    def test_remarks(self):
        look, lay = reader_of(PLAIN, ("?a",)), reader_of(PLAIN, ("a",))
        self.assertTrue(do_pass("forward", look, lay))
        self.assertTrue(do_pass("ahead", lay, look))
        self.assertFalse(do_pass("ahead", look, lay))
        both_of = reader_of(PLAIN, ("?a", "b"))
        self.assertTrue(do_pass("even", both_of, both_of))
        self.assertFalse(do_pass("forward", both_of, both_of))

    def pairs(self):
        random = seeded(50)
        for letters in ("a", "ab", "abc"):
            for _ in range(14):
                yield some_reader(random, letters, random.randint(1, 4), 2), some_reader(random, letters, 3, 2)
        for book in BOOKS:
            for _ in range(4):
                yield (reader_of(book, some_weft(random, book.letters, 3)),
                       reader_of(book, some_weft(random, book.letters, 3)))

    def test_sets_beside_single_webs(self):
        for one, other in self.pairs():
            for word in WORDS:
                found = passing_set(word=word, one=one, other=other)
                self.assertTrue(found.is_least() and is_end_set(found))
                webs = webs_to(one.letters, 4)
                for web in webs:
                    self.assertIs(found.says(web), passes_by_hand(word, one, other, web))
                barred = [web for web in webs if not passes_by_hand(word, one, other, web)]
                first = first_barred(word, one, other)
                if barred:
                    self.assertEqual(first, barred[0])
                self.assertIs(do_pass(word, one, other), first is None)

    def test_sides(self):
        for one, other in self.pairs():
            for word in ("forward", "even"):
                self.assertEqual(passing_set(word, one, other), passing_set(word, other, one))
            ahead = both(passing_set("ahead", one, other), passing_set("ahead", other, one))
            self.assertEqual(passing_set("even", one, other), ahead)

    def test_on_end_sets(self):
        random = seeded(51)
        kinds = set()
        for one, other in self.pairs():
            for word in WORDS:
                passing = passing_set(word, one, other)
                for ends in (None, no_webs(one.letters), some_ends(random, one.letters, 4), passing):
                    asked = all_webs(one.letters) if ends is None else ends
                    first = first_web(but_not(asked, passing))
                    self.assertEqual(first_barred(word=word, one=one, other=other, ends=ends), first)
                    self.assertIs(do_pass(word=word, one=one, other=other, ends=ends), first is None)
                    paper = judge_passing(word, one, other, ends=ends)
                    kinds.add(paper[0])
                    self.assertEqual(paper[0], "passes" if first is None else "barred")
                    self.assertIs(passing_holds(word, one, other, paper, ends=ends), True)
                    for web in webs_to(one.letters, 2):
                        bars = asked.says(web) and not passing.says(web)
                        self.assertIs(passing_holds(word, one, other, ("barred", web), ends=ends), bars)
                    for teller in (passing, asked, all_webs(one.letters), no_webs(one.letters)):
                        held = passing_holds(word, one, other, ("passes", teller), ends=ends)
                        wanted = first_web(but_not(asked, teller)) is None and first_web(but_not(teller, passing)) is None
                        self.assertIs(held, wanted)
        self.assertEqual(kinds, {"passes", "barred"})

    def test_papers(self):
        look, lay = reader_of(PLAIN, ("?a",)), reader_of(PLAIN, ("a",))
        every = Teller("ab", (("reads", True, 1, 0), ("reads", True, 0, 1)))
        self.assertTrue(passing_holds("forward", look, lay, ("passes", every)))
        self.assertFalse(passing_holds("forward", look, lay, ("passes", Teller("ab", (("says", True), ("says", ""))))))
        self.assertFalse(passing_holds("forward", look, lay, ("passes", all_webs("abx"))))
        self.assertFalse(passing_holds("forward", look, lay, ("passes", X)))
        self.assertFalse(passing_holds("forward", look, lay, ("passes", every, every)))
        self.assertTrue(passing_holds("ahead", look, lay, ("passes", ending("ab", "a")), ends=lone_web("ab", "aa")))
        self.assertFalse(passing_holds("ahead", look, lay, ("passes", lone_web("ab", "a")), ends=ending("ab", "a")))
        self.assertTrue(passing_holds("ahead", look, lay, ("barred", "ab")))
        self.assertFalse(passing_holds("ahead", look, lay, ("barred", "ab"), ends=lone_web("ab", "b")))
        for thing in WRONG + (("barred", None), ("barred", "c"), ("passes", None), ["barred", "b"], ("barred", ("b",))):
            for word in WORDS:
                self.assertIs(passing_holds(word=word, one=look, other=lay, thing=thing, ends=None), False)
        for thing in altered(("barred", "b")):
            self.assertIs(passing_holds("ahead", look, lay, thing), False)

    def test_other_letters(self):
        other, ends = unchanged("ab"), all_webs("ab")
        for call in (do_pass, first_barred, judge_passing, lambda *three, **more: passing_holds(*three, 7, **more)):
            for word in WORDS:
                with self.assertRaises(OtherLetters):
                    call(word, X, other)
                with self.assertRaises(OtherLetters):
                    call(word, X, X, ends=ends)
        with self.assertRaises(OtherLetters):
            passing_set("even", X, other)

    def test_limits(self):
        random = seeded(52)
        for letters in ("a", "ab", "abc"):
            for left, right, length in ((12, 12, 6), (40, 50, 200)):
                one, other = some_reader(random, letters, left, length), some_reader(random, letters, right, length)
                for word in WORDS:
                    found = passing_set(word, one, other)
                    for _ in range(20):
                        web = some_web(random, letters, 60)
                        self.assertIs(found.says(web), passes_by_hand(word, one, other, web))
        ring = Reader("ab", (("reads", "a", 0, 1), ("stops", "b")))
        self.assertTrue(passing_holds("even", ring, ring, judge_passing("even", ring, ring)))
