"""[11.1] and the interface of duels: duels, their texts, goals."""

import unittest

from millhands.duels import Duel, is_at, is_goal
from millhands.errors import BadDuel, BadText
from tests.support import WRONG, altered, raised, seeded, some_duel, webs_to

EVEN = Duel("abx", ((0, (("a", 1), ("x", 1))), (1, (("b", 0),))))


class Duels(unittest.TestCase):
    def test_examples(self):
        self.assertEqual(str(EVEN), "duel abx\nturn 0 a 1 x 1\nturn 1 b 0")

    def test_attributes(self):
        duel = Duel(letters="abx", turns=EVEN.turns)
        self.assertEqual((duel.letters, duel.turns, len(duel)), ("abx", EVEN.turns, 2))

    def test_equality(self):
        self.assertEqual(EVEN, Duel("abx", EVEN.turns))
        self.assertNotEqual(EVEN, Duel("abxy", EVEN.turns))
        self.assertNotEqual(EVEN, Duel("abx", EVEN.turns[::-1]))
        for thing in WRONG + (EVEN.turns, ("abx", EVEN.turns), str(EVEN)):
            self.assertIs(EVEN == thing, False)
            self.assertIs(thing == EVEN, False)

    def test_wrong_letters(self):
        for thing in WRONG + ("ba", "aa", "aB", "a-", ("a", "b"), "abca"):
            if not (isinstance(thing, str) and thing in ("a",)):
                for turns in (None, (), EVEN.turns):
                    self.assertEqual(raised(BadDuel, lambda: Duel(thing, turns)).part, "letters")

    def test_wrong_turns(self):
        for thing in WRONG:
            if not isinstance(thing, tuple) or thing == ():
                self.assertEqual(raised(BadDuel, lambda: Duel("abx", thing)).part, "turns")
            self.assertEqual(raised(BadDuel, lambda: Duel("abx", (thing,))).part, 0)
            self.assertEqual(raised(BadDuel, lambda: Duel("abx", (*EVEN.turns, thing, None))).part, 2)
        turn = (0, (("a", 0),))
        self.assertEqual(len(Duel("a", (turn,) * 99)), 99)
        self.assertEqual(raised(BadDuel, lambda: Duel("a", (turn,) * 100)).part, "turns")
        for wrong in ((2, (("a", 0),)), (-1, (("a", 0),)), (False, (("a", 0),)), (0, ()), (0, (("a", 1),)), (0, (("a", -1),)),
                      (0, (("b", 0), ("a", 0))), (0, (("a", 0), ("a", 0))), (0, (("c", 0),)), (0, (("a", 0, 0),)),
                      (0, (("a", True),)), (0, [("a", 0)]), (0, (["a", 0],)), [0, (("a", 0),)], (0, (("a", 0),), 0),
                      (0, (("", 0),)), (0, (("ab", 0),)), ("0", (("a", 0),)), (0, (("a", "0"),)), (0,)):
            self.assertEqual(raised(BadDuel, lambda: Duel("abx", (wrong,))).part, 0, wrong)
        # Turns that are named may stand behind.
        self.assertEqual(len(Duel("ab", ((0, (("a", 1),)), (1, (("a", 1), ("b", 0)))))), 2)

    def test_turns_with_one_thing_otherwise(self):
        for turns in altered(EVEN.turns):
            same = repr(turns) == repr(EVEN.turns)
            try:
                self.assertEqual(Duel("abx", turns).turns, turns)
                text = str(Duel("abx", turns))
                self.assertEqual(Duel.read(text).turns, turns)
            except BadDuel as error:
                self.assertFalse(same)
                self.assertIn(error.part, ("turns", 0, 1, 2))

    def test_texts(self):
        random = seeded(460)
        for letters in ("a", "ab", "abx", "acegikmoqsuwyz"):
            for many in (1, 2, 4, 12, 99):
                duel = some_duel(random, letters, many, len(letters))
                again = Duel.read(text=str(duel))
                self.assertEqual(again, duel)
                self.assertEqual(str(again), str(duel))

    def test_wrong_texts(self):
        for thing in WRONG:
            line = 1 if isinstance(thing, str) else 0
            self.assertEqual(raised(BadText, lambda: Duel.read(thing)).line, line)
        turn = "turn 0 a 1 x 1"
        for text, line in (("", 1), ("duel", 1), ("duel ", 1), ("duel ba\n" + turn, 1), ("duel  ab\n" + turn, 1), ("duel ab", 2),
                           ("duel ab\n", 2), ("Duel ab\nturn 0 a 0", 1), ("duel ab x\nturn 0 a 0", 1),
                           ("duel abx\n" + turn, 2), ("duel abx\nturn 0 a 0\n", 3), ("duel abx\nturn 0 a 0 \n", 2),
                           ("duel abx\nturn 0", 2), ("duel abx\nturn 2 a 0", 2), ("duel abx\nturn 0 a", 2),
                           ("duel abx\nturn 0 a 0 b", 2), ("duel abx\nturn 0  a 0", 2), ("duel abx\nturn 00 a 0", 2),
                           ("duel abx\nturn 0 a 00", 2), ("duel abx\nturn 0 a +0", 2), ("duel abx\nturn 0 a -1", 2),
                           ("duel abx\nturn 0 b 0 a 0", 2), ("duel abx\nturn 0 a 0 a 0", 2), ("duel abx\nturn 0 c 0", 2),
                           ("duel abx\nturn 0 a 1\nturn 1 b 2", 3), ("duel abx\nturn 0 a 2\nturn 1 b 2", 2),
                           ("duel abx\nturn 0 a 0\nturn 0 q 0\nturn", 3), ("duel abx\nturns 0 a 0", 2), (" duel abx", 1)):
            self.assertEqual(raised(BadText, lambda: Duel.read(text)).line, line, text)
        lines = ["duel a"] + ["turn 0 a 0"] * 99
        self.assertEqual(len(Duel.read("\n".join(lines))), 99)
        self.assertEqual(raised(BadText, lambda: Duel.read("\n".join(lines + lines[1:]))).line, 101)
        self.assertEqual(raised(BadText, lambda: Duel.read("\n".join(lines + ["?"]))).line, 101)
        # Right or wrong, each line counts as a turn.
        self.assertEqual(raised(BadText, lambda: Duel.read("duel a\nturn 0 a 1\nq")).line, 3)

    def test_goals(self):
        for thing in WRONG + (("bare", ""), ("last",), ("last", ""), ("last", "c"), ("last", "ab"), ("last", "a", "b"), "bare",
                              ["bare"], ("last", ["a"]), (["last"], "a"), ("Bare",), (("bare",),), ("bare", "a")):
            self.assertIs(is_goal(letters="abx", thing=thing), False, thing)
        self.assertIs(is_goal("abx", ("bare",)), True)
        for letter in "abx":
            self.assertIs(is_goal("abx", ("last", letter)), True)
            self.assertIs(is_goal("q", ("last", letter)), False)

    def test_is_at(self):
        for web in webs_to("abx", 3) + ["qz"]:
            self.assertIs(is_at(goal=("bare",), web=web), web == "")
            for letter in "abx":
                self.assertIs(is_at(("last", letter), web), web.endswith(letter))


if __name__ == "__main__":
    unittest.main()
