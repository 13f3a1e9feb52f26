"""[6.3]: how many steps runs make, and where they are behind many of them, beside single steps."""

import unittest

from millhands.books import Book
from millhands.errors import BadWeb, OtherLetters
from millhands.jumps import after, steps_made
from millhands.programs import Program, program_of, run
from millhands.tables import does_stop, web_left
from tests.support import BOOKS, PAIRS, PLAIN, POP, raised, seeded, some_book, some_program, some_web, steps_by_hand
from tests.test_programs import DRAIN, GROW

FAR = 10 ** 30
# a on a is turned into b, b on b goes, c on c goes: letters tell whether a call is the first or the second one.
CALLS = Book("abc", (("a", "b", "b"), ("b", "b", ""), ("c", "c", "")))
# By these runs are longer than by most others with six places.
LONG_BOOK = Book("abc", (("a", "b", "a"), ("a", "c", "b"), ("b", "a", "c"), ("c", "a", ""), ("c", "b", "c")))
LONG = Program("abc", (("lay", "a", 1), ("lay", "c", 3), ("lay", "a", 0), ("lay", "b", 4), ("lay", "b", 5), ("lay", "b", 2)))


def doubling(levels, letter=None):
    """A program that does at each level twice what it does at the one beneath.

    Behind all of it it stops, or lays a letter and begins anew. Of each level i there are the places 4 * i (an a is laid), 4 * i + 1 (a look behind the
    levels beneath), 4 * i + 2 (the a is turned into b) and 4 * i + 3 (the b goes).
    """
    deeds = []
    for level in range(levels):
        start, back = 4 * level, 4 * level + 5
        deeds.append(("lay", "a", start - 4 if level else start + 1))
        deeds.append(("look", (start, start + 2, start + 3, start)))
        deeds.append(("lay", "b", start - 4 if level else start + 1))
        deeds.append(("lay", "b", back))
    # Behind the level i - 1 the look of the level i comes; behind the last one all is over.
    end = len(deeds)
    deeds[end - 1] = ("lay", "b", end)
    deeds.append(("stop",) if letter is None else ("lay", letter, end + 1))
    # A run begins at the last place: what is laid there lies beneath all of it.
    deeds.append(("lay", "c", end - 4))
    return moved_to_front(deeds, end + 1)


def moved_to_front(deeds, place):
    turn = {0: place, place: 0}
    fresh = []
    for at in range(len(deeds)):
        deed = deeds[turn.get(at, at)]
        if deed[0] == "lay":
            deed = ("lay", deed[1], turn.get(deed[2], deed[2]))
        elif deed[0] == "look":
            deed = ("look", tuple(turn.get(to, to) for to in deed[1]))
        fresh.append(deed)
    return Program("abc", tuple(fresh))


def cases():
    random = seeded(320)
    yield POP, DRAIN
    yield POP, GROW
    yield LONG_BOOK, LONG
    yield CALLS, doubling(3)
    yield CALLS, doubling(2, "c")
    for book in list(BOOKS) + [some_book(random, letters) for letters in ("a", "ab", "abc") * 20]:
        for _ in range(2):
            yield book, some_program(random, book.letters, random.randint(1, 6))


class Jumps(unittest.TestCase):
    def test_examples(self):
        self.assertEqual(steps_made(POP, DRAIN, "xab"), 5)
        self.assertEqual(after(POP, DRAIN, "xab", 3), (2, "a", 2))
        for t in (5, 6, 100, FAR):
            self.assertEqual(after(POP, DRAIN, "xab", t), (1, "x", 1))
        self.assertEqual(after(POP, GROW, "b", FAR), (0, "a", FAR + 1))
        self.assertIsNone(steps_made(POP, GROW, "b"))

    def test_beside_single_steps(self):
        random = seeded(321)
        kinds = set()
        for book, program in cases():
            for web in ("", book.letters, some_web(random, book.letters, 8), some_web(random, book.letters, 60)):
                way = list(steps_by_hand(book, program, web, 1500))
                rows = [(place, now[-1:], len(now)) for place, now, _ in way]
                stops = way[-1][2] is None
                kinds.add(stops)
                self.assertEqual(steps_made(book=book, program=program, web=web), len(way) - 1 if stops else None)
                for t in list(range(40)) + random.sample(range(1500), 40):
                    if t < len(rows) or stops:
                        wanted = rows[min(t, len(rows) - 1)]
                        self.assertEqual(after(book=book, program=program, web=web, t=t), wanted)
                if stops:
                    self.assertEqual(after(book, program, web, FAR), rows[-1])
                    self.assertEqual(run(book, program, web)[1], web_left(book, program, web))
        self.assertEqual(kinds, {True, False})

    def test_each_step_of_a_jump(self):
        """Behind one step more a run is where the deed at its place leads, however far it is."""
        for book, program in cases():
            for t in (10 ** 4, 10 ** 9 + 7, FAR - 1):
                place, seen, high = after(book, program, "", t)
                behind = after(book, program, "", t + 1)
                deed = program.deeds[place]
                if deed[0] == "stop":
                    self.assertEqual(behind, (place, seen, high))
                elif deed[0] == "look":
                    to = deed[1][1 + book.letters.index(seen) if seen else 0]
                    self.assertEqual(behind, (to, seen, high))
                else:
                    left = book.left_of(seen, deed[1])
                    self.assertEqual((behind[0], behind[2]), (deed[2], high + (left is None) - (left == "")))
                    if left != "":
                        self.assertEqual(behind[1], deed[1] if left is None else left)

    def test_very_many_steps(self):
        for levels in (1, 2, 3, 5, 8, 30):
            program = doubling(levels)
            many = steps_made(CALLS, program, "")
            self.assertEqual(many, 1 + 5 * (2 ** levels - 1))
            self.assertTrue(does_stop(CALLS, program, ""))
            self.assertEqual(web_left(CALLS, program, ""), "c")
            if levels < 9:
                self.assertEqual(len(run(CALLS, program, "", most=10 ** 4)[0]), many)
            self.assertEqual(after(CALLS, program, "", many - 1)[1:], ("b", 2))
            self.assertEqual(after(CALLS, program, "", many)[1:], ("c", 1))
            self.assertGreater(after(CALLS, program, "", many // 2)[2], 1)

    def test_rings_with_very_many_steps(self):
        """What goes on for ever with rounds of many steps each, growing by one letter in each of them."""
        program = doubling(12, "b")
        self.assertIsNone(steps_made(CALLS, program, ""))
        around = steps_made(CALLS, doubling(12), "") + 1
        for rounds in (1, 2, 1000, 10 ** 24):
            place, seen, high = after(CALLS, program, "", rounds * around)
            self.assertEqual((place, seen, high), (0, "b", 2 * rounds))
            self.assertEqual(after(CALLS, program, "", rounds * around + 1)[1:], ("c", 2 * rounds + 1))

    def test_webs_of_programs_of_wefts(self):
        weft = ("?a", "x", "b")
        program = program_of("abx", weft)
        self.assertEqual(steps_made(POP, program, "a"), 3)
        self.assertIsNone(steps_made(POP, program, "b"))
        self.assertEqual(after(POP, program, "b", FAR)[1:], ("b", 1))

    def test_wrong_webs_and_letters(self):
        for thing in ("c", None, ("a",), 0, True, ["a"], POP):
            self.assertIs(raised(BadWeb, lambda: steps_made(POP, DRAIN, thing)).thing, thing)
            self.assertIs(raised(BadWeb, lambda: after(POP, DRAIN, thing, 0)).thing, thing)
            raised(OtherLetters, lambda: steps_made(PAIRS, DRAIN, thing))
            raised(OtherLetters, lambda: after(PLAIN, DRAIN, thing, 0))


if __name__ == "__main__":
    unittest.main()
