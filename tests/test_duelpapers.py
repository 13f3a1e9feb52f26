"""[11.4]: papers that one of both hands wins, beside a check of each word of them."""

import unittest

from millhands.books import Book
from millhands.duelpapers import duel_holds, judge_duel
from millhands.duels import Duel
from millhands.errors import BadWeb, OtherLetters
from millhands.forcing import does_win
from tests.support import (BOOKS, PAIRS, PLAIN, POP, WRONG, altered, raised, seeded, some_book, some_duel, some_goal,
                           some_web, webs_to)
from tests.test_duels import EVEN

FIRST = ("first", ((0, "a", (1,), 0), (1, "", (), 0)))
SECOND = ("second", ((0, "b", (1,), 0), (0, "x", (), 0), (1, "a", (), 0), (1, "x", (), 0)))


def cases():
    random = seeded(480)
    yield random, POP, EVEN, ("bare",)
    yield random, POP, EVEN, ("last", "b")
    for book in list(BOOKS) + [some_book(random, letters) for letters in ("a", "ab", "abc", "ab", "abc") * 6]:
        for many in (1, 2, 3, 4):
            yield random, book, some_duel(random, book.letters, many), some_goal(random, book.letters)


def is_kept(book, rows, row, move, hand):
    """Whether a row keeps a move, word for word as [11.4] tells it."""
    _, seen, lot, rank = row
    letter, further = move

    def some(turn, what, within):
        return any(other[0] == turn and other[1] == what and set(other[2]) <= set(within) and (hand or other[3] < rank)
                   for other in rows)

    left = book.left_of(seen, letter) if seen else None
    if left == "":
        return further in lot
    if left is not None:
        return some(further, left, lot)
    tops = [other for other in rows if other[:2] == (further, letter) and (hand or other[3] < rank)]
    return any(all(some(turn, seen, lot) for turn in top[2]) for top in tops)


def does_hold_by_hand(book, duel, goal, web, paper):
    """Whether a paper of the right form is right."""
    word, rows = paper
    hand = 0 if word == "first" else 1
    for row in rows:
        at_goal = row[1] == "" if goal == ("bare",) else row[1] == goal[-1]
        kept = [is_kept(book, rows, row, move, hand) for move in duel.turns[row[0]][1]]
        if at_goal:
            right = hand == 0
        else:
            right = any(kept) if duel.turns[row[0]][0] == hand else all(kept)
        if not right:
            return False
    reached = {row[0] for row in rows if row[1] == ""}
    for letter in web:
        reached = {row[0] for row in rows if row[1] == letter and set(row[2]) <= reached}
    return 0 in reached


class DuelPapers(unittest.TestCase):
    def test_examples(self):
        bare = ("bare",)
        self.assertIs(duel_holds(POP, EVEN, bare, "a", FIRST), True)
        self.assertIs(duel_holds(POP, EVEN, bare, "x", SECOND), True)
        self.assertEqual([judge_duel(POP, EVEN, bare, web)[0] for web in ("a", "x")], ["first", "second"])

    def test_judged(self):
        kinds = {}
        for random, book, duel, goal in cases():
            for web in webs_to(book.letters, 2) + [some_web(random, book.letters, 60)]:
                paper = judge_duel(book=book, duel=duel, goal=goal, web=web)
                first = does_win(book, duel, goal, web)
                self.assertEqual(paper[0], "first" if first else "second")
                self.assertEqual(paper[1], tuple(sorted(paper[1])))
                self.assertIs(duel_holds(book=book, duel=duel, goal=goal, web=web, thing=paper), True)
                self.assertTrue(does_hold_by_hand(book, duel, goal, web, paper))
                kinds[(paper[0], goal[0])] = kinds.get((paper[0], goal[0]), 0) + 1
        self.assertEqual(len(kinds), 4)
        self.assertGreater(min(kinds.values()), 100)

    def test_one_kind_alone(self):
        """Papers for one hand do not hold as papers for the other one, nor on webs that this one wins."""
        for _, book, duel, goal in cases():
            papers = [judge_duel(book, duel, goal, web) for web in webs_to(book.letters, 2)]
            for web in webs_to(book.letters, 2):
                first = does_win(book, duel, goal, web)
                for paper in papers:
                    holds = duel_holds(book, duel, goal, web, paper)
                    self.assertEqual(holds, does_hold_by_hand(book, duel, goal, web, paper))
                    self.assertFalse(holds and (paper[0] == "first") != first)
                    other = ("second" if paper[0] == "first" else "first", tuple(row[:3] + (0,) for row in paper[1]))
                    self.assertFalse(duel_holds(book, duel, goal, web, other) and (other[0] == "first") != first)

    def test_papers_made_by_hand(self):
        """Some rows alone, other ranks, greater lots: right just if each row is, and the web is reached."""
        found = {True: 0, False: 0}
        for random, book, duel, goal in cases():
            for web in webs_to(book.letters, 2)[:6]:
                word, rows = judge_duel(book, duel, goal, web)
                for _ in range(8):
                    some = [row for row in rows if random.random() < 0.85]
                    for _ in range(random.randint(0, 2)):
                        if some:
                            turn, seen, lot, rank = random.choice(some)
                            if seen and random.random() < 0.5:
                                lot = tuple(sorted(set(lot) | {random.randrange(len(duel))}))
                            if word == "first":
                                rank = max(0, rank + random.randint(-2, 2))
                            some.append((turn, seen, lot, rank))
                    paper = (word, tuple(sorted(set(some))))
                    right = does_hold_by_hand(book, duel, goal, web, paper)
                    found[right] += 1
                    self.assertIs(duel_holds(book, duel, goal, web, paper), right)
        self.assertGreater(min(found.values()), 300)

    def test_great_ranks(self):
        rows = ((0, "a", (1,), 10 ** 39), (1, "", (), 0))
        self.assertIs(duel_holds(POP, EVEN, ("bare",), "a", ("first", rows)), True)
        lone = Duel("ab", ((0, (("a", 0),)),))
        rows = ((0, "", (), 10 ** 39), (0, "a", (0,), 10 ** 38))
        self.assertIs(duel_holds(PAIRS, lone, ("bare",), "a" * 60, ("first", rows)), True)
        # More rows with one turn and letter may stand beside one another.
        rows = ((0, "", (), 0), (0, "a", (0,), 3), (0, "a", (0,), 5))
        self.assertIs(duel_holds(PAIRS, lone, ("bare",), "aa", ("first", rows)), True)
        self.assertIs(duel_holds(PAIRS, lone, ("bare",), "aa", ("first", rows[::-1])), False)

    def test_edges(self):
        lone = Duel("ab", ((0, (("a", 0),)),))
        self.assertIs(duel_holds(PLAIN, lone, ("bare",), "", ("first", ((0, "", (), 0),))), True)
        self.assertIs(duel_holds(PLAIN, lone, ("bare",), "", ("first", ())), False)
        self.assertIs(duel_holds(PLAIN, lone, ("bare",), "a", ("second", ())), False)
        self.assertIs(duel_holds(PLAIN, lone, ("bare",), "a", ("second", ((0, "a", (), 0),))), True)
        # The web that is asked about is at the goal.
        self.assertIs(duel_holds(PLAIN, lone, ("last", "b"), "ab", ("first", ((0, "b", (), 0),))), True)
        self.assertIs(duel_holds(PLAIN, lone, ("last", "b"), "ab", ("second", ((0, "b", (), 0),))), False)

    def test_wrong_values(self):
        for thing in WRONG:
            for paper in (thing, [thing], (thing, ()), ("first", thing), ("second", thing), ("first", (thing,)),
                          ("first", FIRST[1], thing), ("third", FIRST[1]), (["first"], FIRST[1]), ("first", list(FIRST[1]))):
                self.assertIs(duel_holds(POP, EVEN, ("bare",), "a", paper), False)
                self.assertIs(duel_holds(POP, EVEN, ("bare",), "x", paper), False)
            for at in range(4):
                row = FIRST[1][0][:at] + (thing,) + FIRST[1][0][at + 1:]
                right = repr(row) in ("(0, 'a', (1,), 0)", "(0, 'a', (1,), 1)", f"(0, 'a', (1,), {10 ** 39})")
                self.assertIs(duel_holds(POP, EVEN, ("bare",), "a", ("first", (row, FIRST[1][1]))), right)

    def test_one_thing_otherwise(self):
        for web, paper in (("a", FIRST), ("x", SECOND)):
            for thing in altered(paper):
                right = False
                if isinstance(thing, tuple) and len(thing) == 2 and isinstance(thing[1], tuple) and thing[0] in paper[:1]:
                    if all(self.has_form(row) for row in thing[1]) and list(thing[1]) == sorted(set(thing[1])):
                        ranked = thing[0] == "first" or all(row[3] == 0 for row in thing[1])
                        right = ranked and does_hold_by_hand(POP, EVEN, ("bare",), web, thing)
                self.assertIs(duel_holds(POP, EVEN, ("bare",), web, thing), right, thing)

    def has_form(self, row):
        """A row as [11.4] tells it, over the letters of POP, in a duel of two turns."""
        if not isinstance(row, tuple) or len(row) != 4 or row[1] not in ("", "a", "b", "x"):
            return False
        if repr(row[2]) not in ("()", "(0,)", "(1,)", "(0, 1)") or (row[1] == "" and row[2] != ()):
            return False
        return repr(row[0]) in "01" and not isinstance(row[3], bool) and isinstance(row[3], int) and row[3] >= 0

    def test_errors(self):
        for thing in WRONG:
            if not isinstance(thing, str) or not set(thing) <= set("abx"):
                self.assertIs(raised(BadWeb, lambda: judge_duel(POP, EVEN, ("bare",), thing)).thing, thing)
                self.assertIs(raised(BadWeb, lambda: duel_holds(POP, EVEN, ("bare",), thing, FIRST)).thing, thing)
        book = Book("abc", ())
        raised(OtherLetters, lambda: judge_duel(book, EVEN, ("bare",), None))
        raised(OtherLetters, lambda: duel_holds(book, EVEN, ("bare",), None, None))


if __name__ == "__main__":
    unittest.main()
