"""[6.1], texts of programs, and the interface of programs."""

import unittest

from millhands.errors import BadProgram, BadText, BadWeb, BadWeft, OtherLetters, TooLong
from millhands.programs import Program, program_of, run
from millhands.wefts import done
from tests.support import (BOOKS, POP, WRONG, X, altered, raised, seeded, some_book, some_program, some_web, some_weft,
                           steps_by_hand, webs_to)

DRAIN = Program("abx", (("look", (1, 2, 2, 1)), ("stop",), ("lay", "x", 0)))
GROW = Program("abx", (("lay", "a", 0),))
LONG = "abcdefghijklmnopqrstuvwxyz"


def line_of(text):
    return raised(BadText, lambda: Program.read(text)).line


def part_of(letters, deeds):
    return raised(BadProgram, lambda: Program(letters, deeds)).part


class Programs(unittest.TestCase):
    def test_attributes(self):
        program = Program(deeds=DRAIN.deeds, letters="abx")
        self.assertEqual((program.letters, program.deeds, len(program)), ("abx", DRAIN.deeds, 3))
        self.assertTrue(program == DRAIN)
        for other in (GROW, Program("ab", (("stop",),)), Program("abc", (("stop",),)), "abx", None, POP, X, DRAIN.deeds):
            self.assertFalse(program == other)
        self.assertFalse(Program("ab", (("stop",),)) == Program("abc", (("stop",),)))

    def test_wrong_letters_and_deeds(self):
        for thing in WRONG:
            if thing not in ("a",):
                self.assertEqual(part_of(thing, (("stop",),)), "letters")
            self.assertEqual(part_of(thing if thing not in ("a",) else "", 0), "letters")
            if not isinstance(thing, tuple) or thing == ():
                self.assertEqual(part_of("ab", thing), "deeds")
            if thing not in (("stop",),):
                self.assertEqual(part_of("ab", (("stop",), thing)), 1)
        self.assertEqual(part_of("ab", (("stop",),) * 1000), "deeds")
        self.assertEqual(len(Program("ab", (("stop",),) * 999)), 999)

    def test_wrong_deeds(self):
        for deed in (("lay", "c", 0), ("lay", "", 0), ("lay", "ab", 0), ("lay", "a", 2), ("lay", "a", -1), ("lay", "a"),
                     ("lay", "a", True), ("lay", "a", 0, 0), ("lay", ("a",), 0), ("lay", 0, "a"), ("look", (0, 0)),
                     ("look", (0, 0, 0, 0)), ("look", [0, 0, 0]), ("look", (0, 0, 2)), ("look", (0, 0, False)),
                     ("look", 0, 0, 0), ("look",), ("stop", 0), ("stop", ()), ["stop"], "stop", ("Stop",), ("none",), ()):
            self.assertEqual(part_of("ab", (("stop",), deed)), 1, deed)
            self.assertEqual(part_of("ab", (deed, None)), 0, deed)
        good = (("lay", "a", 1), ("look", (0, 1, 1)))
        for thing in altered(good):
            try:
                self.assertEqual(Program("ab", thing).deeds, thing)
                for deed in thing:
                    self.assertIn(deed[0], ("lay", "look"))
                    for place in deed[2:] if deed[0] == "lay" else deed[1]:
                        self.assertTrue(repr(place) in "01" and place < len(thing))
            except BadProgram as error:
                self.assertIn(error.part, ("deeds", 0, 1, 2))

    def test_texts(self):
        self.assertEqual(str(DRAIN), "program abx\nlook 1 2 2 1\nstop\nlay x 0")
        random = seeded(300)
        programs = [DRAIN, GROW, Program(LONG, (("lay", "z", 0), ("look", (1,) * 27))), Program("a", (("stop",),) * 999)]
        for program in programs + [some_program(random, "abc", many) for many in range(1, 13)]:
            read = Program.read(str(program))
            self.assertEqual(read, program)
            self.assertEqual(str(read), str(program))

    def test_wrong_texts(self):
        for thing in WRONG:
            self.assertEqual(line_of(thing), 1 if isinstance(thing, str) else 0)
        for text, line in (("program ab", 2), ("program ab\n", 2), ("program ba\nstop", 1), ("program\nstop", 1),
                           ("program  ab\nstop", 1), ("Program ab\nstop", 1), ("program ab \nstop", 1),
                           ("program ab\nstop\n", 3), ("program ab\nstop 0", 2), ("program ab\nlay a 1", 2),
                           ("program ab\nlay a 1\nlay a 2", 3), ("program ab\nlay c 0", 2), ("program ab\nlay a", 2),
                           ("program ab\nlay a 0 0", 2), ("program ab\nlay  a 0", 2), ("program ab\nlook 0 0", 2),
                           ("program ab\nlook 0 0 0 0", 2), ("program ab\nlook 0 0 1", 2), ("program ab\nlook 0 0 00", 2),
                           ("program ab\nlook 0 0 +0", 2), ("program ab\nlook 0 0 -1", 2), ("program ab\nlay a 01", 2),
                           ("program ab\nstop\n stop", 3), ("program ab\nstop\nlook (0, 0, 0)", 3),
                           ("program ab\nlay a 2\nwrong", 2), ("program ab\nlay a 1\nwrong", 3),
                           ("program ab" + "\nstop" * 1000, 1001), ("program ab" + "\nstop" * 1500, 1001),
                           ("program ab\nlay a 1100" + "\nstop" * 1200, 1001), ("program ab\nno" + "\nstop" * 1200, 2),
                           ("program ab" + "\nstop" * 998 + "\nno\nstop", 1000)):
            self.assertEqual(line_of(text), line, text[:40])
        text = str(DRAIN)
        for at in range(len(text)):
            for fresh in ("", " ", "a", "0", "9", "\n"):
                other = text[:at] + fresh + text[at + 1:]
                try:
                    self.assertEqual(str(Program.read(other)), other)
                except BadText as error:
                    self.assertTrue(1 <= error.line <= 5)

    def test_run(self):
        self.assertEqual(run(POP, DRAIN, "xab"), (("?b", "x", "?a", "x", "?x"), "x"))
        self.assertEqual(run(POP, DRAIN, ""), (("?-",), ""))
        random = seeded(301)
        stopped = 0
        for book in list(BOOKS) + [some_book(random, letters) for letters in ("a", "ab", "abc") * 8]:
            program = some_program(random, book.letters, random.randint(1, 6))
            for web in webs_to(book.letters, 2) + [some_web(random, book.letters, 60)]:
                way = list(steps_by_hand(book, program, web, 300))
                if way[-1][2] is not None:
                    self.assertEqual(raised(TooLong, lambda: run(book, program, web, most=299)).most, 299)
                    continue
                stopped += 1
                weft = tuple(item for _, _, item in way[:-1])
                self.assertEqual(run(book=book, program=program, web=web, most=len(weft)), (weft, way[-1][1]))
                self.assertEqual(done(book, weft, web), way[-1][1])
                if weft:
                    error = raised(TooLong, lambda: run(book, program, web, most=len(weft) - 1))
                    self.assertEqual(error.most, len(weft) - 1)
        self.assertGreater(stopped, 50)

    def test_most(self):
        self.assertEqual(raised(TooLong, lambda: run(POP, GROW, "")).most, 2000)
        self.assertEqual(raised(TooLong, lambda: run(POP, GROW, "", most=5000)).most, 5000)
        self.assertEqual(run(POP, Program("abx", (("stop",),)), "ab", most=0), ((), "ab"))
        self.assertEqual(raised(TooLong, lambda: run(POP, DRAIN, "", most=0)).most, 0)

    def test_wrong_webs_and_letters(self):
        for thing in ("c", None, ("a",), 0, True, ["a"], POP):
            self.assertIs(raised(BadWeb, lambda: run(POP, DRAIN, thing, most=0)).thing, thing)
            raised(OtherLetters, lambda: run(BOOKS[1], DRAIN, thing))

    def test_program_of(self):
        random = seeded(302)
        for book in list(BOOKS) + [some_book(random, letters) for letters in ("a", "ab", "abc")]:
            for weft in [()] + [some_weft(random, book.letters, 8) for _ in range(5)]:
                program = program_of(letters=book.letters, weft=weft)
                self.assertLessEqual(len(program), len(weft) + 2)
                for web in webs_to(book.letters, 3):
                    left = done(book, weft, web)
                    if left is None:
                        raised(TooLong, lambda: run(book, program, web, most=200))
                    else:
                        self.assertEqual(run(book, program, web)[1], left)
        for thing in WRONG:
            if thing not in ((), ("a",)):
                self.assertIs(raised(BadWeft, lambda: program_of("ab", thing)).thing, thing)


if __name__ == "__main__":
    unittest.main()
