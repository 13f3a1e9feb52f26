"""[4.3], [4.4]: papers of soundness and of certain outcomes, beside all orders on short webs."""

import unittest

from millhands.errors import OtherLetters
from millhands.logs import kept, orders, outcomes, weft_of
from millhands.readers import Reader, unchanged
from millhands.shedpapers import certain_holds, judge_certain, judge_sound, sound_holds
from millhands.sheds import certain_set, first_unsound, is_sound, shed, shed_on, sound_set
from millhands.tellers import (Teller, all_webs, both, but_not, either, ending, first_web, is_end_set, is_within,
                               lone_web, no_webs)
from millhands.wefts import done
from tests.support import (BOOKS, PAIRS, PLAIN, POP, WRONG, X, altered, raised, seeded, some_book, some_ends, some_log,
                           some_web, told_log, webs_to)
from tests.test_logs import T0, T1
from tests.test_sheds import T2

BEHIND = (T1[0], (1, False, (0,), ("?a",)))


def cases():
    random = seeded(200)
    for book in list(BOOKS) + [some_book(random, letters) for letters in ("a", "ab", "abc", "ab", "abc", "ab")]:
        for lots in (0, 1, 2, 3, 4):
            log = some_log(random, book.letters, lots, 6) if lots else ()
            for ends in (all_webs(book.letters), some_ends(random, book.letters, 4), no_webs(book.letters)):
                yield random, book, log, ends
            web = some_web(random, book.letters, 4)
            if lots:
                yield random, book, told_log(random, book, web, lots), ending(book.letters, web)


def short_webs(book, ends):
    return [web for web in webs_to(book.letters, 4 if len(book) < 3 else 3) if ends.says(web)]


def fitting_orders(book, log, outcome, web):
    return [order for order in orders(log, outcome) if done(book, weft_of(log, order), web) is not None]


def is_in(thing, values):
    """Whether a value is one of some values, part by part: True is not 1."""
    return repr(thing) in [repr(value) for value in values]


def is_plain(row):
    return not any(isinstance(number, bool) for order in row for number in order)


class SoundPapers(unittest.TestCase):
    def check_rows(self, book, log, ends, rows):
        for part, row in rows:
            self.assertTrue(is_end_set(part))
            self.assertEqual([tuple(sorted(order)) for order in row], list(outcomes(log)))
            for web in short_webs(book, part):
                for outcome, order in zip(outcomes(log), row):
                    self.assertIn(order, fitting_orders(book, log, outcome, web))
        for web in short_webs(book, ends):
            self.assertTrue(any(part.says(web) for part, _ in rows))

    def test_papers_beside_all_orders(self):
        kinds = set()
        for _, book, log, ends in cases():
            paper = judge_sound(book=book, log=log, ends=ends)
            kinds.add(paper[0])
            self.assertIs(sound_holds(book=book, log=log, ends=ends, thing=paper), True)
            unsound = [web for web in short_webs(book, ends) if not is_sound(book, log, web)]
            if paper[0] == "sound":
                self.assertEqual((paper[:1], unsound), (("sound",), []))
                self.check_rows(book, log, ends, paper[1])
                continue
            web = paper[1]
            self.assertTrue(ends.says(web))
            self.assertTrue(web == unsound[0] if unsound else len(web) > 3)
            self.assertEqual(paper[2], [one for one in outcomes(log) if not fitting_orders(book, log, one, web)][0])
            for other in unsound:
                for outcome in outcomes(log):
                    self.assertIs(sound_holds(book, log, ends, ("unsound", other, outcome)),
                                  not fitting_orders(book, log, outcome, other))
            self.assertFalse(sound_holds(book, log, ends, judge_sound(book, log, sound_set(book, log))))
        self.assertEqual(kinds, {"sound", "unsound"})

    def test_sound_on_the_sound_set(self):
        for _, book, log, ends in cases():
            part = both(ends, sound_set(book, log))
            paper = judge_sound(book, log, part)
            self.assertEqual(paper[0], "sound")
            self.assertTrue(sound_holds(book, log, part, paper))
            if ends == all_webs(book.letters):
                self.assertIs(sound_holds(book, log, ends, paper), first_unsound(book, log) is None)

    def test_examples(self):
        self.assertEqual(judge_sound(PAIRS, BEHIND, all_webs("ab")), ("unsound", "a", (0, 1)))
        self.assertEqual(judge_sound(POP, T2, all_webs("abx")), ("unsound", "a", (1,)))
        self.assertEqual(judge_sound(POP, T2, no_webs("abx")), ("sound", ()))
        ends = lone_web("abx", "")
        self.assertTrue(sound_holds(POP, T2, ends, ("sound", ((ends, ((), (0,), (1,), (1, 0))),))))
        self.assertFalse(sound_holds(POP, T2, ends, ("sound", ((ends, ((), (0,), (1,), (0, 1))),))))
        whole = all_webs("ab")
        with_a, others = ending("ab", "a"), but_not(whole, ending("ab", "a"))
        rows = ((with_a, ((0,), (1, 0))), (others, ((0,), (0, 1))))
        self.assertTrue(sound_holds(PAIRS, T1, whole, ("sound", rows)))
        self.assertTrue(sound_holds(PAIRS, T1, whole, ("sound", rows[::-1])))
        self.assertFalse(sound_holds(PAIRS, T1, whole, ("sound", rows[:1])))
        self.assertTrue(sound_holds(PAIRS, T1, with_a, ("sound", rows[:1])))
        self.assertFalse(sound_holds(PAIRS, T1, whole, ("sound", ((with_a, rows[1][1]), (others, rows[0][1])))))
        self.assertFalse(sound_holds(PAIRS, T1, whole, ("sound", ((whole, rows[0][1]), (whole, rows[1][1])))))

    def test_right_papers_that_are_not_the_told_ones(self):
        for random, book, log, _ in cases():
            ends = sound_set(book, log)
            rows = judge_sound(book, log, ends)[1]
            split = some_ends(random, book.letters, 4)
            parts = tuple((part(ends, split), row) for ends, row in rows for part in (both, but_not))
            self.assertTrue(sound_holds(book, log, ends, ("sound", parts)))
            self.assertTrue(sound_holds(book, log, ends, ("sound", parts[::-1] + rows)))
            # An end set without webs keeps its form, whatever its orders are.
            least = tuple(orders(log, outcome)[-1] for outcome in outcomes(log))
            self.assertTrue(sound_holds(book, log, ends, ("sound", rows + ((no_webs(book.letters), least),))))
            for at in range(len(parts)):
                left = no_webs(book.letters)
                for part, _ in parts[:at] + parts[at + 1:]:
                    left = either(left, part)
                self.assertIs(sound_holds(book, log, ends, ("sound", parts[:at] + parts[at + 1:])),
                              is_within(ends, left))

    def test_altered_papers(self):
        for book, log, ends in ((PAIRS, T1, all_webs("ab")), (POP, T2, lone_web("abx", "")), (PAIRS, (), all_webs("ab")),
                                (PAIRS, BEHIND, all_webs("ab")), (PAIRS, T0, ending("ab", "ab"))):
            paper = judge_sound(book, log, ends)
            for thing in altered(paper):
                told = sound_holds(book, log, ends, thing)
                self.assertIs(told, isinstance(thing, tuple) and len(thing) == len(paper)
                              and self.is_right(book, log, ends, thing), thing)

    def is_right(self, book, log, ends, thing):
        """Whether a paper that has one thing otherwise is right all the same."""
        rows = thing[1]
        if thing[0] == "unsound" and isinstance(rows, str) and set(rows) <= set(book.letters) and ends.says(rows):
            return is_in(thing[2], outcomes(log)) and not fitting_orders(book, log, thing[2], rows)
        if thing[0] != "sound" or not isinstance(rows, tuple):
            return False
        good = judge_sound(book, log, ends)[1]
        # One more time the same row changes nothing; everything else does here.
        return len(rows) >= len(good) > 0 and all(row in good and is_plain(row[1]) for row in rows)

    def test_wrong_values(self):
        for thing in WRONG:
            self.assertIs(sound_holds(PAIRS, T1, all_webs("ab"), thing), False)
            self.assertIs(certain_holds(PAIRS, T0, (0, 1), all_webs("ab"), thing), False)
            for word in ("sound", "unsound", "certain", "parted"):
                for paper in ((word, thing), (word, thing, (0, 1)), (word, "", thing), (word, (thing,)),
                              (word, ((thing, ((0,), (1, 0))),)), (word, ((all_webs("ab"), thing),)),
                              (word, thing, (0, 1), (1, 0)), (word, "", thing, (1, 0)), (word, "", (0, 1), thing)):
                    if paper != ("sound", ()):
                        self.assertIs(sound_holds(PAIRS, T1, all_webs("ab"), paper), False, paper)
                    if paper[:1] + paper[2:] != ("parted", (0, 1), (1, 0)) or thing not in ("", "a", "ba", "aa"):
                        self.assertIs(certain_holds(PAIRS, T0, (0, 1), all_webs("ab"), paper), False, paper)

    def test_end_sets_of_other_letters_are_no_rows(self):
        paper = judge_sound(PAIRS, T0, all_webs("ab"))
        rows = ((all_webs("abx"), paper[1][0][1]),)
        self.assertIs(sound_holds(PAIRS, T0, all_webs("ab"), ("sound", rows)), False)
        no_ends = Teller("ab", (("says", "yes"),))
        self.assertIs(sound_holds(PAIRS, T0, all_webs("ab"), ("sound", ((no_ends, paper[1][0][1]),))), False)

    def test_other_letters(self):
        for call in (lambda: judge_sound(PAIRS, T0, all_webs("abx")), lambda: sound_holds(PAIRS, T0, all_webs("a"), 0),
                     lambda: judge_certain(PAIRS, T0, (), all_webs("abx")),
                     lambda: certain_holds(PAIRS, T0, (), all_webs("b"), 0)):
            raised(OtherLetters, call)


class CertainPapers(unittest.TestCase):
    def test_example(self):
        paper = judge_certain(PAIRS, T0, (0, 1), all_webs("ab"))
        self.assertEqual(paper[:2], ("parted", ""))
        self.assertEqual(sorted(paper[2:]), [(0, 1), (1, 0)])
        self.assertTrue(certain_holds(PAIRS, T0, (0, 1), all_webs("ab"), ("parted", "", (0, 1), (1, 0))))
        self.assertTrue(certain_holds(PAIRS, T0, (0, 1), all_webs("ab"), ("parted", "ba", (1, 0), (0, 1))))
        self.assertFalse(certain_holds(PAIRS, T0, (0, 1), ending("ab", "a"), ("parted", "", (0, 1), (1, 0))))
        self.assertFalse(certain_holds(PAIRS, T0, (0, 1), all_webs("ab"), ("parted", "", (0, 1), (0, 1))))
        self.assertFalse(certain_holds(PAIRS, T0, (0,), all_webs("ab"), ("parted", "", (0, 1), (1, 0))))

    def test_papers_beside_all_orders(self):
        kinds = set()
        for _, book, log, ends in cases():
            for outcome in outcomes(log):
                paper = judge_certain(book=book, log=log, outcome=outcome, ends=ends)
                kinds.add(paper[0])
                self.assertIs(certain_holds(book=book, log=log, outcome=outcome, ends=ends, thing=paper), True)
                forked = [web for web in short_webs(book, ends) if len(shed_on(book, log, outcome, web)) > 1]
                if paper[0] == "certain":
                    self.assertEqual(forked, [])
                    for web in short_webs(book, ends):
                        made = paper[1].made(web)
                        self.assertEqual(shed_on(book, log, outcome, web), () if made is None else (made,))
                else:
                    self.assertTrue(paper[1] == forked[0] if forked else len(paper[1]) > 3)
                    left = [done(book, weft_of(log, order), paper[1]) for order in paper[2:]]
                    self.assertTrue(None not in left and left[0] != left[1])
        self.assertEqual(kinds, {"certain", "parted"})

    def test_readers_made_by_hand(self):
        """Any reader is right that makes the same on the end set, whatever it makes elsewhere."""
        log = ((0, True, (), ("a",)), (1, True, (), ("x",)))
        ends = lone_web("abx", "b")
        paper = judge_certain(POP, log, (0, 1), all_webs("abx"))
        self.assertEqual(paper[0], "parted")
        # On b both orders lead on: a and then x leave b, x and then a leave a.
        self.assertEqual(shed_on(POP, log, (0, 1), "b"), ("a", "b"))
        order = ((0, True, (), ("a",)), (1, True, (0,), ("x",)))
        whole = all_webs("abx")
        for reader, wanted in ((unchanged("abx"), True), (X, False), (unchanged("ab"), False),
                               (Reader("abx", (("reads", "", 1, 2, 3), ("stops", "a"), ("stops", "b"), ("stops", "x"))), True),
                               (Reader("abx", (("reads", "", 1, 2, 1), ("stops", "a"), ("stops", "b"))), False),
                               (Reader("abx", (("reads", None, 1, 2, 3), ("stops", "a"), ("stops", "b"), ("stops", "x"))), False)):
            self.assertIs(certain_holds(POP, order, (0, 1), whole, ("certain", reader)), wanted)
        only_b = Reader("abx", (("reads", None, 0, 1, 0), ("stops", "b")))
        self.assertTrue(certain_holds(POP, order, (0, 1), ends, ("certain", only_b)))
        self.assertFalse(certain_holds(POP, log, (0, 1), ends, ("certain", only_b)))
        self.assertFalse(certain_holds(POP, order, (0, 1), whole, ("certain", only_b)))

    def test_nothing_is_made_where_nothing_fits(self):
        log = ((0, True, (), ("?a",)), (1, True, (), ("?-",)))
        nothing = Reader("ab", (("none",),))
        self.assertEqual(judge_certain(PLAIN, log, (0, 1), all_webs("ab")), ("certain", nothing))
        self.assertFalse(certain_holds(PLAIN, log, (0, 1), all_webs("ab"), ("certain", unchanged("ab"))))

    def test_altered_papers(self):
        ends = all_webs("ab")
        for log, outcome in ((T0, (0, 1)), (T0, (0,)), (T0, ())):
            paper = judge_certain(PAIRS, log, outcome, ends)
            for thing in altered(paper):
                told = certain_holds(PAIRS, log, outcome, ends, thing)
                right = isinstance(thing, tuple) and len(thing) == 4 and is_in(thing[0::2], [paper[0::2]])
                right = right and is_in(thing[3], [paper[3]])
                self.assertIs(told, right and isinstance(thing[1], str) and set(thing[1]) <= set("ab"), thing)

    def test_certain_set_is_just_where_it_is_certain(self):
        for random, book, log, ends in cases():
            outcome = random.choice(outcomes(log))
            certain = certain_set(book, log, outcome)
            paper = judge_certain(book, log, outcome, both(ends, certain))
            self.assertEqual(paper[0], "certain")
            self.assertIs(certain_holds(book, log, outcome, ends, paper), is_within(ends, certain))

    def test_sheds_of_many_nodes(self):
        """No number bounds the readers of papers."""
        log = tuple((at, True, (), ("x", letter)) for at, letter in enumerate("aba"))
        paper = judge_certain(POP, kept(log, (0, 1)), (0, 1), all_webs("abx"))
        self.assertEqual(paper[0], "parted")
        ends = certain_set(POP, log, (0, 1, 2))
        paper = judge_certain(POP, log, (0, 1, 2), ends)
        for web in webs_to("abx", 4):
            if ends.says(web):
                self.assertEqual(shed(POP, log, (0, 1, 2)).made(web), (paper[1].made(web),))
        self.assertEqual(first_web(but_not(all_webs("abx"), ends)), "")


if __name__ == "__main__":
    unittest.main()
