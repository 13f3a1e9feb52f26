"""[11.5]: players, against all that the other hand can lay."""

import unittest

from millhands.books import Book, laid_on
from millhands.duelpapers import duel_holds, judge_duel
from millhands.duels import Duel, is_at
from millhands.errors import BadWeb, Lost, NoMove, NothingToUndo, NotNow, OtherLetters
from millhands.forcing import does_win, winning_turns
from millhands.players import Player
from tests.support import BOOKS, PAIRS, PLAIN, POP, WRONG, raised, seeded, some_book, some_duel, some_goal, some_web, webs_to
from tests.test_duels import EVEN


def cases():
    random = seeded(490)
    yield random, POP, EVEN, ("bare",)
    yield random, POP, EVEN, ("last", "b")
    for book in list(BOOKS) + [some_book(random, letters) for letters in ("a", "ab", "abc", "ab", "abc") * 6]:
        for many in (1, 2, 3, 4):
            yield random, book, some_duel(random, book.letters, many), some_goal(random, book.letters)


def play_one(player, duel, random, book, web, turn):
    """One more letter, laid by whoever's turn it is; the web and the turn behind it."""
    if duel.turns[turn][0] == player.hand:
        letter = player.move()
    else:
        letter = random.choice(duel.turns[turn][1])[0]
        assert player.hear(letter) is None
    return laid_on(book, web, letter), dict(duel.turns[turn][1])[letter]


class Players(unittest.TestCase):
    def test_attributes(self):
        player = Player(book=POP, duel=EVEN, goal=("bare",), web="a", hand=0)
        self.assertEqual((player.hand, player.goal), (0, ("bare",)))
        self.assertEqual((player.web_now, player.turn_now, player.is_over, len(player)), ("a", 0, False, 0))
        self.assertEqual(player.move(), "x")
        self.assertEqual((player.web_now, player.turn_now, player.is_over, len(player)), ("", 1, True, 1))
        for call in (player.move, lambda: player.hear("b"), lambda: player.hear(None)):
            raised(NotNow, call)
        self.assertIsNone(player.undo())
        self.assertEqual((player.web_now, player.turn_now, player.is_over, len(player)), ("a", 0, False, 0))
        raised(NothingToUndo, player.undo)

    def test_plays(self):
        """The first hand's player comes to the goal, the second one's never lets the other one come there."""
        longest = {0: 0, 1: 0}
        for random, book, duel, goal in cases():
            for web in webs_to(book.letters, 2)[:5] + [some_web(random, book.letters, 60)]:
                hand = 0 if does_win(book, duel, goal, web) else 1
                player = Player(book, duel, goal, web, hand)
                moments = [(web, 0)]
                while not player.is_over and len(player) < 200:
                    moments.append(play_one(player, duel, random, book, *moments[-1]))
                    self.assertEqual((player.web_now, player.turn_now), moments[-1])
                    self.assertEqual(len(player), len(moments) - 1)
                    self.assertIs(player.is_over, is_at(goal, player.web_now))
                    if not player.is_over and len(player.web_now) <= 60:
                        self.assertEqual(player.turn_now in winning_turns(book, duel, goal, player.web_now), hand == 0)
                self.assertEqual(player.is_over, hand == 0, (book.folds, duel.turns, goal, web))
                longest[hand] = max(longest[hand], len(player))
                while len(player):
                    moments.pop()
                    player.undo()
                    self.assertEqual((player.web_now, player.turn_now, player.is_over), (*moments[-1], False))
        self.assertGreater(longest[0], 20)
        self.assertEqual(longest[1], 200)

    def test_all_answers(self):
        """Short plays of the first hand, against each answer: a tree without an end that is not at the goal."""
        plays = 0
        for _, book, duel, goal in cases():
            for web in webs_to(book.letters, 1):
                if not does_win(book, duel, goal, web):
                    continue
                player = Player(book, duel, goal, web, 0)
                before = plays
                plays += self.plays_from(player, duel, 0, 300)
                self.assertEqual((player.web_now, len(player)), (web, 0))
                self.assertGreater(plays, before)
        self.assertGreater(plays, 100)

    def plays_from(self, player, duel, plays, most):
        """How many plays there are from here on; not many more than most are gone through."""
        if player.is_over or plays > most:
            return plays + 1
        self.assertLess(len(player), 200)
        hand, moves = duel.turns[player.turn_now]
        for letter, _ in moves if hand == 1 else moves[:1]:
            player.hear(letter) if hand == 1 else player.move()
            plays = self.plays_from(player, duel, plays, most)
            player.undo()
        return plays

    def test_lost(self):
        for random, book, duel, goal in cases():
            web = some_web(random, book.letters, 6)
            hand = 1 if does_win(book, duel, goal, web) else 0
            paper = raised(Lost, lambda: Player(book, duel, goal, web, hand)).paper
            self.assertEqual(paper[0], ("second", "first")[hand])
            self.assertIs(duel_holds(book, duel, goal, web, paper), True)
        self.assertEqual(raised(Lost, lambda: Player(PLAIN, Duel("ab", ((1, (("a", 0),)),)), ("bare",), "", 1)).paper[0], "first")

    def test_whose_turn_it_is(self):
        player = Player(POP, EVEN, ("bare",), "x", 1)
        raised(NotNow, player.move)
        for thing in WRONG:
            if not isinstance(thing, str) or thing not in ("a", "x"):
                self.assertIs(raised(NoMove, lambda: player.hear(thing)).letter, thing)
        self.assertEqual(raised(NoMove, lambda: player.hear("b")).letter, "b")
        self.assertEqual((len(player), player.web_now), (0, "x"))
        player.hear(letter="a")
        for thing in ("b", "a", None):
            raised(NotNow, lambda: player.hear(thing))
        self.assertEqual(player.move(), "b")
        self.assertEqual((len(player), player.web_now, player.turn_now), (2, "xab", 0))
        raised(NotNow, player.move)
        player.undo()
        self.assertEqual((len(player), player.turn_now), (1, 1))
        self.assertEqual(player.move(), "b")

    def test_over_at_once(self):
        for web, goal in (("", ("bare",)), ("ab", ("last", "b"))):
            player = Player(POP, EVEN, goal, web, 0)
            self.assertIs(player.is_over, True)
            raised(NotNow, player.move)
            raised(NotNow, lambda: player.hear("b"))
            raised(NothingToUndo, player.undo)
            self.assertIs(player.is_over, True)

    def test_undo_and_play_otherwise(self):
        """Behind letters that were taken back all is as it was ahead of them."""
        for random, book, duel, goal in cases():
            web = some_web(random, book.letters, 4)
            hand = 0 if does_win(book, duel, goal, web) else 1
            player = Player(book, duel, goal, web, hand)
            moments = [(web, 0)]
            for _ in range(120):
                if len(player) and (player.is_over or random.random() < 0.4):
                    player.undo()
                    moments.pop()
                elif not player.is_over:
                    moments.append(play_one(player, duel, random, book, *moments[-1]))
                self.assertEqual((player.web_now, player.turn_now, len(player)), (*moments[-1], len(moments) - 1))
            for _ in range(200):
                if player.is_over:
                    break
                moments.append(play_one(player, duel, random, book, *moments[-1]))
            self.assertIs(player.is_over, hand == 0)

    def test_two_players_do_not_know_of_one_another(self):
        lone = Duel("ab", ((0, (("a", 0),)),))
        one, other = [Player(PAIRS, lone, ("bare",), "a" * 60, 0) for _ in range(2)]
        for _ in range(60):
            one.move()
        self.assertEqual((one.is_over, other.is_over, other.web_now), (True, False, "a" * 60))

    def test_the_same_call_plays_the_same(self):
        for _, book, duel, goal in cases():
            paper = judge_duel(book, duel, goal, book.letters)
            hand = 0 if paper[0] == "first" else 1
            letters = []
            for _ in range(2):
                random, player = seeded(7), Player(book, duel, goal, book.letters, hand)
                moment = (book.letters, 0)
                while not player.is_over and len(player) < 30:
                    moment = play_one(player, duel, random, book, *moment)
                letters.append((moment, len(player)))
            self.assertEqual(letters[0], letters[1])

    def test_errors(self):
        book = Book("abc", ())
        raised(OtherLetters, lambda: Player(book, EVEN, ("bare",), None, 0))
        for thing in WRONG:
            if not isinstance(thing, str) or not set(thing) <= set("abx"):
                for hand in (0, 1):
                    self.assertIs(raised(BadWeb, lambda: Player(POP, EVEN, ("bare",), thing, hand)).thing, thing)


if __name__ == "__main__":
    unittest.main()
