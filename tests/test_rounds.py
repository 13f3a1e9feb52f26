"""[6.6]: rounds, wheels and their papers, beside readers of many rounds."""

import unittest

from millhands.books import Book
from millhands.errors import BadWeft, TooMany
from millhands.programs import Program
from millhands.readers import joined, unchanged
from millhands.rounds import judge_rounds, rounds_hold, wheel
from millhands.tables import does_stop, table_of, track, web_left
from millhands.wefts import done, reader_of
from tests.support import BOOKS, PAIRS, PLAIN, POP, TURN, WRONG, altered, raised, seeded, some_book, some_weft, webs_to

KINDS = {"rounds", "down", "up"}
# By this book three laid c come round behind one round.
THREE = Book("abc", (("a", "a", ""), ("a", "c", "b"), ("b", "a", ""), ("b", "b", ""), ("b", "c", "c"), ("c", "a", "c"),
                     ("c", "b", ""), ("c", "c", "a")))


def cases():
    random = seeded(330)
    for book in list(BOOKS) + [THREE] + [some_book(random, letters) for letters in ("a", "ab", "abc", "ab", "abc") * 6]:
        yield book, ()
        for many in (1, 2, 3, 4):
            yield book, some_weft(random, book.letters, many)
        yield book, tuple(random.choice(book.letters) for _ in range(random.randint(1, 6)))


def pair_by_hand(book, weft, most):
    """The least first and around, told by least readers of rounds; None if there is none up to most rounds."""
    reader = reader_of(book, weft)
    known = {}
    rounds = unchanged(book.letters)
    for many in range(most):
        if rounds.nodes in known:
            return known[rounds.nodes], many - known[rounds.nodes]
        known[rounds.nodes] = many
        if len(rounds) > 400:
            return None
        rounds = joined(rounds, reader)
    return None


def place_by_hand(table, web, place=0):
    for letter in web[::-1]:
        if table[(place, letter)][0] != "beneath":
            return None
        place = table[(place, letter)][1]
    return place


def rounds_done(book, weft, web, many):
    for _ in range(many):
        web = None if web is None else done(book, weft, web)
    return web


class Rounds(unittest.TestCase):
    def test_examples(self):
        self.assertEqual(judge_rounds(POP, ("a", "x")), ("rounds", 0, 1))
        self.assertEqual(judge_rounds(POP, ("?-",)), ("rounds", 1, 1))
        for paper in (("down", "", "a"), ("up", "", "x", ((0, "x"),), 0)):
            self.assertIs(rounds_hold(POP, ("x",), paper), True)
        self.assertIs(rounds_hold(POP, ("a",), ("up", "", "b", ((0, "b"), (0, "a")), 1)), True)
        self.assertIn(judge_rounds(POP, ("x",))[0], ("down", "up"))
        self.assertEqual(judge_rounds(POP, ("a",))[0], "up")
        self.assertEqual(judge_rounds(THREE, ("c",)), ("rounds", 1, 3))
        self.assertEqual(judge_rounds(TURN, ("a", "b")), ("rounds", 1, 1))

    def test_wheel(self):
        self.assertEqual(wheel("abx", ("?a", "x")),
                         Program("abx", (("look", (2, 1, 2, 2)), ("lay", "x", 0), ("look", (2, 2, 2, 2)))))
        self.assertEqual(wheel(letters="a", weft=("?-",)), Program("a", (("look", (0, 1)), ("look", (1, 1)))))
        self.assertEqual(wheel("ab", ("b",)), Program("ab", (("lay", "b", 0), ("look", (1, 1, 1)))))
        for book, weft in cases():
            if weft:
                self.assertEqual(len(wheel(book.letters, weft)), len(weft) + 1)
                self.assertFalse(does_stop(book, wheel(book.letters, weft), book.letters))

    def test_papers_beside_readers(self):
        kinds = set()
        for book, weft in cases():
            paper = judge_rounds(book=book, weft=weft)
            kinds.add(paper[0])
            self.assertIs(rounds_hold(book=book, weft=weft, thing=paper), True)
            pair = pair_by_hand(book, weft, 24)
            if paper[0] == "rounds":
                self.assertEqual(paper[1:], pair)
            else:
                self.assertIsNone(pair)
        self.assertEqual(kinds, KINDS)

    def test_rounds_are_right_just_by_multiples(self):
        for book, weft in cases():
            pair = pair_by_hand(book, weft, 24)
            for first in range(7):
                for around in range(-1, 8):
                    wanted = pair is not None and first >= pair[0] and around > 0 and around % pair[1] == 0
                    self.assertIs(rounds_hold(book, weft, ("rounds", first, around)), wanted)
            if pair is not None:
                self.assertIs(rounds_hold(book, weft, ("rounds", pair[0] + 500, pair[1] * 100)), True)
                self.assertIs(rounds_hold(book, weft, ("rounds", -1, pair[1])), False)
                self.assertIs(rounds_hold(book, weft, ("rounds", pair[0], -pair[1])), False)

    def test_down_and_up_beside_the_table(self):
        """All short papers of the other kinds are right just if the table of the wheel tells so."""
        found = set()
        for book, weft in cases():
            program = wheel(book.letters, weft) if weft else Program(book.letters, (("stop",),))
            table = {row[:2]: row[2] for row in table_of(book, program)}
            for ahead in webs_to(book.letters, 2):
                place = place_by_hand(table, ahead)
                for ring in webs_to(book.letters, 2):
                    wanted = bool(weft) and ring != "" and place is not None
                    wanted = wanted and place_by_hand(table, ring, place) == place
                    found.add(("down", wanted))
                    self.assertIs(rounds_hold(book, weft, ("down", ahead, ring)), wanted)
                    if wanted:
                        self.check_eaten(book, weft, ahead, ring)
                for seen in ("", *book.letters):
                    for start in range(len(program)):
                        told = track(book, program, start, seen)
                        if told is None:
                            continue
                        rises = any(self.does_rise(book, program, spot, table) for spot in told[0][told[1]:])
                        wanted = bool(weft) and place == start and rises
                        found.add(("up", wanted))
                        self.assertIs(rounds_hold(book, weft, ("up", ahead, seen, *told)), wanted)
                        if wanted:
                            self.check_grown(book, weft, seen + ahead)
        self.assertEqual(found, {(word, truth) for word in ("down", "up") for truth in (True, False)})

    def does_rise(self, book, program, spot, table):
        deed = program.deeds[spot[0]]
        return deed[0] == "lay" and book.left_of(spot[1], deed[1]) is None and table[deed[2], deed[1]] == ("ever",)

    def check_eaten(self, book, weft, ahead, ring):
        """The more rings there are, the more rounds forget what stood in their place."""
        web = book.letters[0] + ring * 6 + ahead
        lengths = []
        for _ in range(100):
            lengths.append(len(web))
            web = done(book, weft, web)
            if web is None:
                break
        self.assertLessEqual(min(lengths), len(book.letters[0] + ring) + len(weft))

    def check_grown(self, book, weft, web):
        lengths = [len(rounds_done(book, weft, web, many)) for many in (0, 20, 60, 120)]
        self.assertEqual(lengths[1:], sorted(set(lengths[1:])))

    def test_never_both(self):
        for book, weft in cases():
            paper = judge_rounds(book, weft)
            if paper[0] == "rounds":
                for ahead in webs_to(book.letters, 2):
                    for ring in webs_to(book.letters, 2):
                        self.assertIs(rounds_hold(book, weft, ("down", ahead, ring)), False)
            else:
                self.assertIs(rounds_hold(book, weft, ("rounds", 10, 12)), False)

    def test_empty_weft(self):
        for book in BOOKS:
            self.assertEqual(judge_rounds(book, ()), ("rounds", 0, 1))
            for thing in (("rounds", 0, 1), ("rounds", 3, 7)):
                self.assertIs(rounds_hold(book, (), thing), True)
            for thing in (("rounds", 0, 0), ("down", "", "a"), ("up", "", "a", ((0, "a"),), 0), ("up", "", "", ((0, ""),), 0)):
                self.assertIs(rounds_hold(book, (), thing), False)
            self.assertEqual(judge_rounds(book, (), most=1), ("rounds", 0, 1))
            self.assertEqual(raised(TooMany, lambda: judge_rounds(book, (), most=0)).most, 0)

    def test_most(self):
        for book, weft in cases():
            paper = judge_rounds(book, weft, most=5000)
            if paper[0] != "rounds":
                self.assertEqual(judge_rounds(book, weft, most=0), paper)
                continue
            self.assertEqual(judge_rounds(book, weft, most=paper[1] + paper[2]), paper)
            for most in range(paper[1] + paper[2]):
                self.assertEqual(raised(TooMany, lambda: judge_rounds(book, weft, most=most)).most, most)

    def test_altered_papers(self):
        """What has one thing otherwise is right just if it is, part by part, a paper that the table tells."""
        climbing = ("up", "", "b", ((0, "b"), (0, "a")), 1)
        for thing in altered(climbing):
            right = [climbing, ("up", "", "x", ((0, "x"), (0, "a")), 1), ("up", "", "a", ((0, "a"),), 0)]
            self.assertIs(rounds_hold(POP, ("a",), thing), repr(thing) in [repr(paper) for paper in right], thing)
        for thing in altered(("down", "a", "ab")):
            wanted = (isinstance(thing, tuple) and len(thing) == 3 and thing[0] == "down"
                      and all(isinstance(part, str) and set(part) <= set("ab") for part in thing[1:]) and thing[2] != "")
            self.assertIs(rounds_hold(POP, ("x",), thing), wanted, thing)
        for thing in altered(("rounds", 1, 2)):
            wanted = (isinstance(thing, tuple) and len(thing) == 3 and thing[0] == "rounds"
                      and all(isinstance(part, int) and not isinstance(part, bool) for part in thing[1:])
                      and thing[1] >= 1 and thing[2] >= 1)
            self.assertIs(rounds_hold(POP, ("?-",), thing), wanted, thing)

    def test_wrong_values(self):
        for weft in ((), ("a",), ("x",), ("?-",)):
            for thing in WRONG:
                self.assertIs(rounds_hold(POP, weft, thing), False)
                for paper in (("rounds", thing, 1), ("rounds", 0, thing), ("down", thing, "a"), ("down", "", thing),
                              ("up", thing, "b", ((0, "b"), (0, "a")), 1), ("up", "", thing, ((0, "b"), (0, "a")), 1),
                              ("up", "", "b", thing, 1), ("up", "", "b", ((0, "b"), (0, "a")), thing)):
                    told = rounds_hold(POP, weft, paper)
                    self.assertIn(told, (True, False))
                    if not isinstance(thing, str) and not (isinstance(thing, int) and not isinstance(thing, bool)):
                        self.assertIs(told, False, paper)

    def test_wrong_wefts(self):
        for thing in WRONG:
            if thing not in ((), ("a",)):
                for call in (lambda: judge_rounds(PLAIN, thing), lambda: rounds_hold(PLAIN, thing, ("rounds", 0, 1)),
                             lambda: wheel("ab", thing)):
                    self.assertIs(raised(BadWeft, call).thing, thing)

    def test_wheels_and_rounds_do_the_same(self):
        """The wheel never stops; its runs leave out a round just where the weft does not fit."""
        for book, weft in cases():
            if not weft:
                continue
            paper = judge_rounds(book, weft)
            if paper[0] == "rounds":
                for web in webs_to(book.letters, 3):
                    for many in (0, 1, 2, 5):
                        self.assertEqual(rounds_done(book, weft, web, paper[1] + many),
                                         rounds_done(book, weft, web, paper[1] + many + paper[2]))
            self.assertIsNone(web_left(book, wheel(book.letters, weft), ""))

    def test_limits(self):
        random = seeded(331)
        for _ in range(60):
            book = some_book(random, random.choice(["ab", "abc"]))
            weft = tuple(random.choice(book.letters) for _ in range(8))
            self.assertTrue(rounds_hold(book, weft, judge_rounds(book, weft)))
        # Four letters that are eaten in all ways, and four that are left: behind one round all is as it was.
        self.assertEqual(judge_rounds(POP, ("x",) * 4 + ("a",) * 4), ("rounds", 1, 1))
        self.assertEqual(judge_rounds(PAIRS, ("a",)), ("down", "", "a"))


if __name__ == "__main__":
    unittest.main()
