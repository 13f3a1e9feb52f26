"""[11.2], [11.3]: what can be forced, and who wins on which webs, beside plays gone through one by one."""

import unittest
from itertools import combinations

from millhands.books import Book, laid_on
from millhands.duels import Duel, is_at
from millhands.errors import BadWeb, OtherLetters
from millhands.forcing import (does_force, does_hold_back, does_win, first_lost, first_won, forced, winners, winning_turns)
from millhands.tellers import all_webs, but_not, first_web
from tests.support import (BOOKS, BRACKETS, MARKS, PAIRS, PLAIN, POP, TURN, WRONG, raised, seeded, some_book, some_duel,
                           some_goal, some_web, webs_to)
from tests.test_duels import EVEN


def cases():
    random = seeded(470)
    yield random, POP, EVEN, ("bare",)
    yield random, POP, EVEN, ("last", "b")
    for book in list(BOOKS) + [some_book(random, letters) for letters in ("a", "ab", "abc", "ab", "abc") * 6]:
        for many in (1, 2, 3, 4):
            yield random, book, some_duel(random, book.letters, many), some_goal(random, book.letters)


def won_within(book, duel, goal, length, beyond):
    """The pairs of webs and turns from which the first hand wins, where longer webs than these are won, or lost."""
    webs = webs_to(book.letters, length)
    won = {(web, turn) for web in webs for turn in range(len(duel)) if is_at(goal, web)}
    changed = True
    while changed:
        changed = False
        for web in webs:
            for turn in range(len(duel)):
                if (web, turn) in won:
                    continue
                hand, moves = duel.turns[turn]
                left = [(laid_on(book, web, letter), further) for letter, further in moves]
                ways = [is_at(goal, other) or (beyond if len(other) > length else (other, further) in won)
                        for other, further in left]
                if any(ways) if hand == 0 else all(ways):
                    won.add((web, turn))
                    changed = True
    return won


def all_lots(duel):
    return [lot for many in range(len(duel) + 1) for lot in combinations(range(len(duel)), many)]


class Forcing(unittest.TestCase):
    def test_examples(self):
        bare = ("bare",)
        self.assertEqual(forced(POP, EVEN, bare), ((0, "a", ((1,),)), (0, "b", ((1,),)), (0, "x", ()), (1, "a", ()),
                                                   (1, "b", ()), (1, "x", ())))
        self.assertEqual([winning_turns(POP, EVEN, bare, web) for web in ("", "a", "aa")], [(0, 1), (0,), ()])
        self.assertEqual(first_lost(POP, EVEN, bare), "x")
        table = forced(POP, EVEN, ("last", "b"))
        self.assertIn((0, "b", ((),)), table)
        self.assertIn((1, "a", ((),)), table)
        self.assertEqual(winning_turns(POP, EVEN, ("last", "b"), ""), (0, 1))

    def test_the_table(self):
        for _, book, duel, goal in cases():
            table = forced(book=book, duel=duel, goal=goal)
            self.assertEqual([row[:2] for row in table],
                             [(turn, letter) for turn in range(len(duel)) for letter in book.letters])
            for turn, letter, lots in table:
                self.assertEqual(lots, tuple(sorted(lots)))
                for lot in all_lots(duel):
                    one = any(set(least) <= set(lot) for least in lots)
                    self.assertIs(does_force(book=book, duel=duel, goal=goal, turn=turn, letter=letter, lot=lot), one)
                    rest = tuple(other for other in range(len(duel)) if other not in lot)
                    self.assertIs(does_hold_back(book=book, duel=duel, goal=goal, turn=turn, letter=letter, lot=rest), not one)
                for least in lots:
                    self.assertFalse(any(set(other) < set(least) for other in lots))

    def test_what_is_forced_by_hand(self):
        """On a letter that stands on another book's bottom: what is left there ends the play, won at a turn of the lot."""
        decided = 0
        for _, book, duel, goal in cases():
            if len(duel) > 3 or len(book) > 2:
                continue
            length = 6 if len(book) == 1 else 5
            for lot in all_lots(duel):
                low, high = [self.forced_within(book, duel, goal, length, beyond, lot) for beyond in (False, True)]
                for turn in range(len(duel)):
                    for letter in book.letters:
                        force = does_force(book, duel, goal, turn, letter, lot)
                        if (letter, turn) in low:
                            self.assertTrue(force)
                        if (letter, turn) not in high:
                            self.assertFalse(force)
                        decided += ((letter, turn) in low) == ((letter, turn) in high)
        self.assertGreater(decided, 1000)

    def forced_within(self, book, duel, goal, length, beyond, lot):
        """As won_within, of what stands behind some web: the bare one is its end, won at the turns of a lot."""
        webs = [web for web in webs_to(book.letters, length) if web]
        won = {(web, turn) for web in webs for turn in range(len(duel)) if goal[0] == "last" and is_at(goal, web)}
        won |= {("", turn) for turn in lot}
        changed = True
        while changed:
            changed = False
            for web in webs:
                for turn in range(len(duel)):
                    hand, moves = duel.turns[turn]
                    left = [(laid_on(book, web, letter), further) for letter, further in moves]
                    ways = [beyond if len(other) > length and not (goal[0] == "last" and is_at(goal, other))
                            else (other, further) in won or (other != "" and goal[0] == "last" and is_at(goal, other))
                            for other, further in left]
                    if (web, turn) not in won and (any(ways) if hand == 0 else all(ways)):
                        won.add((web, turn))
                        changed = True
        return won

    def test_who_wins_by_hand(self):
        """Bounds from both sides: long webs are lost, or won."""
        decided = {True: 0, False: 0}
        for _, book, duel, goal in cases():
            length = {1: 8, 2: 5, 3: 3}[len(book)]
            low, high = [won_within(book, duel, goal, length, beyond) for beyond in (False, True)]
            for web in webs_to(book.letters, 3 if len(book) < 3 else 2):
                turns = winning_turns(book=book, duel=duel, goal=goal, web=web)
                self.assertEqual(turns, tuple(sorted(turns)))
                for turn in range(len(duel)):
                    if (web, turn) in low or (web, turn) not in high:
                        self.assertEqual(turn in turns, (web, turn) in low)
                        decided[turn in turns] += 1
        self.assertGreater(min(decided.values()), 500)

    def test_webs_of_any_length(self):
        """W(v x) by W(v) and the rows of the table; the end set says the same."""
        for random, book, duel, goal in cases():
            table = {row[:2]: row[2] for row in forced(book, duel, goal)}
            ends = winners(book=book, duel=duel, goal=goal)
            self.assertTrue(ends.is_least())
            for web in webs_to(book.letters, 3)[:20] + [some_web(random, book.letters, 60) for _ in range(4)]:
                turns = winning_turns(book, duel, goal, web)
                if web:
                    before = winning_turns(book, duel, goal, web[:-1])
                    self.assertEqual(turns, tuple(turn for turn in range(len(duel))
                                                  if any(set(lot) <= set(before) for lot in table[(turn, web[-1])])))
                elif goal == ("bare",):
                    self.assertEqual(turns, tuple(range(len(duel))))
                self.assertIs(does_win(book=book, duel=duel, goal=goal, web=web), 0 in turns)
                self.assertIs(ends.says(web), 0 in turns)
            self.assertEqual(first_won(book=book, duel=duel, goal=goal), first_web(ends))
            self.assertEqual(first_lost(book=book, duel=duel, goal=goal), first_web(but_not(all_webs(book.letters), ends)))

    def test_edges(self):
        lone = Duel("ab", ((0, (("a", 0),)),))
        self.assertEqual(forced(PLAIN, lone, ("bare",)), ((0, "a", ()), (0, "b", ())))
        self.assertEqual((first_won(PLAIN, lone, ("bare",)), first_lost(PLAIN, lone, ("bare",))), ("", "a"))
        self.assertEqual(forced(PLAIN, lone, ("last", "a")), ((0, "a", ((),)), (0, "b", ((),))))
        self.assertIsNone(first_lost(PLAIN, lone, ("last", "a")))
        self.assertEqual(first_won(PLAIN, lone, ("last", "b")), "b")
        self.assertEqual(forced(PAIRS, lone, ("bare",)), ((0, "a", ((0,),)), (0, "b", ())))
        self.assertEqual(winning_turns(PAIRS, lone, ("bare",), "a" * 60), (0,))
        self.assertEqual(winning_turns(PAIRS, lone, ("bare",), "a" * 59 + "b"), ())
        # The second hand chooses what is left: an x, or an a that is taken away again, for ever.
        second = Duel("abx", ((1, (("a", 1), ("x", 2))), (0, (("x", 0),)), (0, (("a", 2),))))
        self.assertEqual(forced(POP, second, ("bare",))[:2], ((0, "a", ()), (0, "b", ())))
        second = Duel("abx", ((1, (("b", 1), ("x", 2))), (0, (("x", 3),)), (0, (("a", 2),)), (0, (("x", 1),))))
        for letter in "ab":
            self.assertIs(does_force(POP, second, ("bare",), 0, letter, (1, 2)), True)
            self.assertIs(does_force(POP, second, ("bare",), 0, letter, (2,)), False)
            self.assertIs(does_hold_back(POP, second, ("bare",), 0, letter, (0, 3)), False)
            self.assertIs(does_hold_back(POP, second, ("bare",), 0, letter, (2,)), True)
            self.assertIs(does_hold_back(POP, second, ("bare",), 0, letter, ()), False)
        nobody = Duel("ab", ((0, (("b", 0),)),))
        self.assertEqual((first_won(TURN, nobody, ("last", "a")), first_lost(TURN, nobody, ("last", "a"))), ("a", ""))

    def test_both_goals(self):
        duel = Duel("ab", ((0, (("a", 1), ("b", 1))), (1, (("a", 0), ("b", 0)))))
        self.assertEqual(winners(BRACKETS, duel, ("last", "a")), all_webs("ab"))
        second = Duel("am", ((1, (("a", 0), ("m", 0))),))
        self.assertEqual([winners(MARKS, second, ("last", "m")).says(web) for web in ("m", "a", "")], [True, False, False])
        self.assertEqual(winning_turns(BRACKETS, duel, ("bare",), "a"), (0,))
        self.assertEqual(winning_turns(BRACKETS, duel, ("bare",), "b"), ())

    def test_wrong_webs(self):
        for thing in WRONG:
            if not isinstance(thing, str) or not set(thing) <= set("abx"):
                for call in (winning_turns, does_win):
                    self.assertIs(raised(BadWeb, lambda: call(POP, EVEN, ("bare",), thing)).thing, thing)

    def test_other_letters(self):
        book = Book("abc", ())
        bare = ("bare",)
        for call in (lambda: forced(book, EVEN, bare), lambda: does_force(book, EVEN, bare, 0, "a", ()),
                     lambda: does_hold_back(book, EVEN, bare, 0, "a", ()), lambda: winning_turns(book, EVEN, bare, 1),
                     lambda: does_win(book, EVEN, bare, None), lambda: winners(book, EVEN, bare),
                     lambda: first_won(book, EVEN, bare), lambda: first_lost(book, EVEN, bare)):
            raised(OtherLetters, call)


if __name__ == "__main__":
    unittest.main()
