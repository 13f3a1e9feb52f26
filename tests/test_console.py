"""The console, beside a mill and its gate that are asked the same, command by command."""

import unittest

from millhands.books import Book
from millhands.console import Console
from millhands.errors import (BadName, BadPromise, Broken, Full, InvalidCommand, MillError, NoHand, NoMill, NoName, NothingToRedo,
                              NothingToUndo, NoWish, OtherLetters, Unsound, Waits)
from millhands.gates import Gate
from millhands.logtexts import log_text
from millhands.mills import Mill
from millhands.reach import first_row
from millhands.tellers import ending, lone_web
from millhands.wefts import weft_text
from tests.support import BOOKS, PLAIN, WRONG, raised, seeded, some_book, some_weft, some_web

POP_TEXT = "book abx;fold a x -;fold b x -"
# Commands that have the form of one where the mill's book is over a and b; of some only there.
RIGHT = ("begin", "ask 0 a", "ask 17 ?", "wish 0", "drop 0", "in 0", "out 0", "web", "log", "row -", "row ab", "put a -", "put a a ?-",
         "put abcdefgh ?a", "away a", "bring book ab", "bring book q;fold q q q", "never - -", "never a ab", "back - b",
         "most - 0", "most ab 61", "fits - a", "fits b zzz", "names", "undo", "redo", "ask 9999999999999999999999999999999999999999 a")
WRONG_ALWAYS = ("", " ", "begin ", " begin", "begin 0", "Begin", "beg", "ask", "ask 0", "ask 0 ", "ask  0 a", "ask 00 a", "ask -1 a", "ask +1 a",
                "ask 0 ab", "ask 0 ?a", "ask 0 A", "ask 0 -", "ask 0 a b", "ask x a", "ask 1_0 a", "wish", "wish a", "wish 0 0", "drop",
                "in", "in -0", "in 0 ", "out", "out 01", "web -", "web a", "log 0", "row", "row  a", "row A", "row a b", "row ?", "row a-",
                "put", "put a", "put a ", "put  a a", "put A a", "put abcdefghi a", "put a- a", "put a  a", "put a a ", "put a ?",
                "put a a  a", "put a - a", "put a aa", "put a a - ", "away", "away ", "away a b", "away A", "bring", "bring ", "bring book",
                "bring book ba", "bring book ab;", "bring book ab;fold a", "bring book ab; fold a a -", "bring  book ab",
                "bring book ab;fold b b -;fold a a -", "never", "never -", "never - - -", "never  - -", "back -", "back - - a", "most - -",
                "most -", "most - a", "most - 01", "most 0 -", "most - 1 ", "fits -", "fits - 0", "fits - ab c", "fits - abcdefghi", "names -",
                "names ", "undo 1", "redo -", "undo ", "mill", "mill -", "mill book ab", "mill a book", "mill  - book ab", "mill - book ba",
                "mill c book ab", "mill ab  book ab", "mill - book ab;", "mill - book ab;fold a a", "mill - Book ab", "mill - book ab ",
                "ask 99999999999999999999999999999999999999999 a", "begin\n", "web\n", "put a\na", "mill - book ab\nfold a a -", "hello", "?")
OVER_C = ("ask 0 c", "row c", "put a c", "put a ?c", "never c -", "never - c", "back - c", "most c 1", "fits c a")


class HandConsole:
    """What a console answers, by a mill and a gate."""

    def __init__(self):
        self.mill = self.gate = None

    def answer(self, word, *parts):
        if word == "mill":
            self.mill = Mill(parts[1], parts[0])
            self.gate = Gate(self.mill)
            return "ok"
        return getattr(self, "do_" + word)(*parts)

    def do_begin(self):
        try:
            return str(self.mill.begin())
        except Full:
            return "full"

    def do_ask(self, number, deed):
        try:
            return self.told(self.mill.ask(number, deed))
        except Waits:
            return "busy"
        except Full:
            return "full"

    def told(self, status):
        return "told " + status[1] if status[0] == "told" else status[0]

    def do_wish(self, number):
        status = self.mill.status(number)
        return "-" if status is None else self.told(status)

    def do_drop(self, number):
        try:
            self.mill.drop(number)
        except NoWish:
            return "no"
        return "ok"

    def do_in(self, number):
        try:
            return self.news(self.mill.hand_in(number))
        except Waits:
            return "busy"

    def do_out(self, number):
        return self.news(self.mill.take_out(number))

    def news(self, pairs):
        return "; ".join(f"{number} {item}" for number, item in pairs) if pairs else "-"

    def do_web(self):
        return self.mill.web_now or "-"

    def do_log(self):
        return ";".join(log_text(self.mill.log_now).split("\n"))

    def do_row(self, other):
        row = first_row(self.mill.book_now, self.mill.web_now, other)
        return "no" if row is None else "-" if row == "" else row

    def do_names(self):
        return " ".join(self.gate.names()) if self.gate.names() else "-"

    def refusable(self, call, *parts):
        try:
            call(*parts)
        except (BadName, BadPromise, Broken, NoName, OtherLetters, Unsound, NothingToUndo, NothingToRedo):
            return "no"
        return "ok"

    def do_put(self, name, weft):
        return self.refusable(self.gate.put, name, weft)

    def do_away(self, name):
        return self.refusable(self.gate.take_away, name)

    def do_bring(self, book):
        return self.refusable(self.gate.bring, book)

    def do_undo(self):
        return self.refusable(self.mill.undo)

    def do_redo(self):
        return self.refusable(self.mill.redo)

    def lone(self, web):
        return lone_web(self.mill.book_now.letters, web)

    def do_never(self, web, end):
        return self.refusable(self.gate.put_promise, ("never", self.lone(web), ending(self.mill.book_now.letters, end)))

    def do_back(self, web, other):
        return self.refusable(self.gate.put_promise, ("back", self.lone(web), self.lone(other)))

    def do_most(self, web, many):
        return self.refusable(self.gate.put_promise, ("most", self.lone(web), many))

    def do_fits(self, web, name):
        return self.refusable(self.gate.put_promise, ("fits", self.lone(web), name))


def command_of(word, parts):
    """The text of a command."""
    words = [word]
    for part in parts:
        if isinstance(part, Book):
            words.append(str(part).replace("\n", ";"))
        elif isinstance(part, tuple):
            words.append(weft_text(part))
        else:
            words.append(str(part) if part != "" else "-")
    return " ".join(words)


def some_command(random, letters, mill):
    """A command, mostly about an open hand; hands that have laid little are asked more."""
    web, other = some_web(random, letters, 3), some_web(random, letters, 3)
    still = [lot[0] for lot in mill.log_now if not lot[1]]
    number = random.choice(still) if still and random.random() < 0.9 else random.randint(0, 4)
    if mill.kept_now and random.random() < 0.3:
        return random.choice(("wish", "drop", "in")), mill.kept_now[0][0]
    name = random.choice(("a", "b", "word"))
    if random.random() < 0.6:
        return random.choice([("ask", number, random.choice(letters + "??")), ("begin",)])
    return random.choice([
        ("begin",), ("wish", number), ("wish", number), ("drop", number), ("in", number), ("out", number),
        ("web",), ("log",), ("row", other), ("put", name, some_weft(random, letters, 3)), ("away", name),
        ("bring", some_book(random, letters)), ("never", web, other), ("back", web, other), ("most", web, random.randint(0, 62)),
        ("fits", web, name), ("names",), ("undo",), ("redo",)])


class Consoles(unittest.TestCase):
    def test_examples(self):
        console = Console()
        for command, answer in (("mill a " + POP_TEXT, "ok"), ("begin", "0"), ("begin", "1"), ("ask 1 ?", "told ?a"),
                                ("ask 1 b", "told b"), ("ask 0 x", "told x"), ("ask 0 ?", "waits"), ("in 0", "busy"),
                                ("in 1", "0 ?a"), ("in 0", "-"), ("web", "a"), ("log", "log"), ("row ba", "xba")):
            self.assertEqual(console.run(command=command), answer)

    def test_beside_a_mill_and_its_gate(self):
        random = seeded(520)
        answers = {}
        for book in list(BOOKS) + [some_book(random, letters) for letters in ("a", "ab", "abc") * 25]:
            console, hand = Console(), HandConsole()
            for at in range(60):
                first = ("mill", some_web(random, book.letters, 3), book)
                word, *parts = some_command(random, book.letters, hand.mill) if at else first
                try:
                    answer = hand.answer(word, *parts)
                except MillError as error:
                    self.assertIsInstance(error, NoHand)
                    found = raised(NoHand, lambda: console.run(command_of(word, parts)))
                    self.assertEqual(found.number, error.number)
                    continue
                self.assertEqual(console.run(command_of(word, parts)), answer)
                answers.setdefault(word, set()).add(answer if answer in ("ok", "no", "busy", "full", "-", "never", "waits") else 1)
        for word, expected in (("ask", {1, "busy", "waits"}), ("wish", {"-", "waits"}), ("drop", {"ok", "no"}), ("in", {"busy", "-"}),
                               ("begin", {1, "full"}), ("put", {"ok", "no"}), ("away", {"ok", "no"}), ("bring", {"ok", "no"}),
                               ("never", {"ok", "no"}), ("back", {"ok", "no"}), ("most", {"ok", "no"}), ("fits", {"ok", "no"}),
                               ("undo", {"ok", "no"}), ("redo", {"ok", "no"}), ("row", {1, "no", "-"}), ("names", {1, "-"})):
            self.assertTrue(expected <= answers[word], (word, answers[word]))

    def test_hands(self):
        console = Console()
        for command, answer in (("mill - book ab", "ok"), ("begin", "0"), ("begin", "1"), ("ask 1 ?", "told ?-"), ("ask 1 a", "told a"),
                                ("ask 0 ?", "told ?-"), ("wish 0", "-"), ("ask 0 a", "waits"), ("wish 0", "waits"), ("ask 0 b", "busy"),
                                ("in 0", "busy"), ("log", "log;lot 0 open - ?-;lot 1 open - ?- a"), ("begin", "2"), ("begin", "full"),
                                ("out 1", "0 a"), ("undo", "ok"), ("in 1", "-"), ("wish 0", "never"), ("redo", "no"),
                                ("drop 0", "ok"), ("drop 0", "no"), ("ask 0 b", "never"), ("in 0", "-"), ("log", "log;lot 0 done - ?-;"
                                "lot 1 done - ?- a;lot 2 open - -"), ("web", "-"), ("out 2", "-"), ("web", "a"), ("row a", "-"),
                                ("row -", "no"), ("undo", "ok"), ("redo", "ok"), ("redo", "no")):
            self.assertEqual(console.run(command), answer, command)

    def test_told_wishes_and_more_news(self):
        console = Console()
        for command, answer in (("mill - book ab", "ok"), ("begin", "0"), ("begin", "1"), ("begin", "2"), ("ask 0 ?", "told ?-"),
                                ("ask 0 a", "told a"), ("ask 1 ?", "told ?-"), ("ask 2 ?", "told ?-"), ("ask 2 ?", "told ?-"),
                                ("ask 1 ?", "told ?-"), ("ask 1 ?", "told ?-"), ("ask 1 ?", "told ?-"), ("ask 1 ?", "full"),
                                ("ask 1 b", "full"), ("out 0", "-"), ("in 1", "-"), ("in 2", "-"), ("web", "-")):
            self.assertEqual(console.run(command), answer, command)
        # Two wishes of looks wait for the hand that lays; both are told as soon as it is done.
        console = Console()
        for command, answer in (("mill - book ab", "ok"), ("begin", "0"), ("ask 0 a", "told a"), ("begin", "1"), ("begin", "2"),
                                ("ask 1 ?", "told ?-"), ("ask 1 b", "told b"), ("ask 1 ?", "told ?b"), ("ask 2 ?", "told ?-"),
                                ("ask 2 ?", "told ?-"), ("ask 2 b", "waits"), ("out 0", "-"), ("out 1", "2 b"), ("in 2", "-"),
                                ("web", "b")):
            self.assertEqual(console.run(command), answer, command)

    def test_gate(self):
        console = Console()
        for command, answer in (("mill - book am;fold m m m", "ok"), ("names", "-"), ("put mark m", "ok"), ("put mark a", "no"),
                                ("put look ?- ?m", "ok"), ("put nothing -", "ok"), ("names", "look mark nothing"), ("most - 1", "ok"),
                                ("most - 0", "no"), ("most - 61", "no"), ("most - " + "9" * 40, "no"), ("most a 60", "ok"),
                                ("bring book am", "no"), ("bring book ab", "no"), ("bring book am;fold a a a;fold m m m", "ok"),
                                ("never - a", "ok"), ("never - m", "no"), ("never - -", "no"), ("never m -", "no"), ("back - m", "ok"),
                                ("back - -", "no"), ("fits - nothing", "ok"), ("fits - look", "no"), ("fits - gone", "no"),
                                ("away mark", "no"), ("away gone", "no"), ("away nothing", "no"), ("away look", "ok"),
                                ("names", "mark nothing"), ("undo", "ok"), ("names", "look mark nothing"), ("redo", "ok"),
                                ("names", "mark nothing"), ("mill a book am", "ok"), ("names", "-"), ("undo", "no"), ("web", "a")):
            self.assertEqual(console.run(command), answer, command)

    def test_forms(self):
        for letters in (None, "ab", "abcde"):
            for command in RIGHT + WRONG_ALWAYS + OVER_C:
                console = Console()
                if letters:
                    self.assertEqual(console.run("mill - book " + letters), "ok")
                if command in WRONG_ALWAYS or (letters == "ab" and command in OVER_C):
                    raised(InvalidCommand, lambda: console.run(command))
                elif letters is None:
                    raised(NoMill, lambda: console.run(command))
                else:
                    try:
                        self.assertIsInstance(console.run(command), str)
                    except NoHand as error:
                        self.assertEqual(error.number, int(command.split(" ")[1]))

    def test_any_value(self):
        for thing in WRONG:
            for console in (Console(), Console()):
                raised(InvalidCommand, lambda: console.run(thing))
                console.run("mill ab " + POP_TEXT)
                raised(InvalidCommand, lambda: console.run(thing))
                self.assertEqual(console.run("web"), "ab")
        raised(NoMill, lambda: Console().run("ask 0 z"))
        raised(InvalidCommand, lambda: Console().run("ask 0 Z"))

    def test_order_of_errors(self):
        console = Console()
        # First the form, then the mill, then the hand.
        raised(InvalidCommand, lambda: console.run("ask 0 ab"))
        raised(NoMill, lambda: console.run("ask 0 a"))
        raised(InvalidCommand, lambda: console.run("mill c book ab"))
        raised(NoMill, lambda: console.run("begin"))
        console.run("mill - book ab")
        raised(InvalidCommand, lambda: console.run("ask 7 c"))
        for command in ("ask 7 a", "wish 7", "drop 7", "in 7", "out 7"):
            self.assertEqual(raised(NoHand, lambda: console.run(command)).number, 7)
        console.run("begin")
        console.run("in 0")
        self.assertEqual(raised(NoHand, lambda: console.run("wish 0")).number, 0)
        number = 10 ** 40 - 1
        self.assertEqual(raised(NoHand, lambda: console.run(f"in {number}")).number, number)
        raised(InvalidCommand, lambda: console.run(f"in {number + 1}"))
        # A mill that is not told right leaves the one that there is.
        raised(InvalidCommand, lambda: console.run("mill q book ab"))
        self.assertEqual(console.run("begin"), "1")

    def test_two_consoles(self):
        one, other = Console(), Console()
        one.run("mill a book a")
        raised(NoMill, lambda: other.run("web"))
        other.run("mill - book b")
        self.assertEqual((one.run("web"), other.run("web")), ("a", "-"))

    def test_books_and_webs(self):
        console = Console()
        for command, answer in (("mill qz book qz;fold q z -;fold z z q", "ok"), ("web", "qz"), ("row q", "zz"), ("row -", "zzz"),
                                ("row qz", "-"), ("mill zq book qz", "ok"), ("row -", "no"), ("row zqq", "q"),
                                ("mill - " + POP_TEXT, "ok"), ("bring " + POP_TEXT, "ok"), ("bring book abx", "ok"),
                                ("bring " + str(PLAIN), "no"), ("undo", "ok"), ("undo", "ok"), ("undo", "no")):
            self.assertEqual(console.run(command), answer, command)


if __name__ == "__main__":
    unittest.main()
