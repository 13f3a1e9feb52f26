"""[10.4] to [10.6]: named wefts, promises, editions of the book, beside what can stand by part 8."""

import unittest

from millhands.books import Book
from millhands.courses import course_led, longest_standing, standing
from millhands.coursepapers import first_stuck
from millhands.errors import (BadName, BadPromise, BadWeft, Broken, NoName, NothingToRedo, NothingToUndo, OtherLetters,
                              Unsound)
from millhands.gates import Gate, breaks_holds, does_promise_hold, promise_breaks
from millhands.ledsets import domain
from millhands.mills import Mill
from millhands.sheds import first_order
from millhands.tellers import (Teller, all_webs, both, but_not, ending, is_empty, is_within, lone_web, no_webs)
from millhands.wefts import reader_of
from tests.support import (BOOKS, MARKS, PAIRS, PLAIN, POP, WRONG, X, altered, raised, seeded, some_book, some_ends,
                           some_shelf, some_web)

NAMES = ("a", "ab", "b", "zzzzzzzz")
BARE = lone_web("ab", "")


def some_promise(random, letters):
    start = some_ends(random, letters, 4) if random.random() < 0.4 else lone_web(letters, some_web(random, letters, 3))
    word = random.choice(("never", "back", "most", "fits"))
    if word in ("never", "back"):
        ends = some_ends(random, letters, 4) if random.random() < 0.4 else ending(letters, some_web(random, letters, 2))
        return word, start, ends
    return word, start, random.choice((0, 1, 2, 5, 60)) if word == "most" else random.choice(NAMES + ("none",))


def gates():
    random = seeded(450)
    for book in list(BOOKS) + [some_book(random, letters) for letters in ("a", "ab", "abc", "ab", "abc") * 6]:
        gate = Gate(Mill(book))
        if random.random() < 0.8:
            for name, weft in zip(random.sample(NAMES, 4), some_shelf(random, book.letters)):
                gate.put(name, weft)
        yield random, book, gate


def does_hold_by_hand(book, named, promise):
    """As [10.4] tells it, by the sets of part 8."""
    word, start, what = promise
    shelf = tuple(named[name] for name in sorted(named))
    stands = standing(book, shelf, start, most=5000) if shelf else start
    if word == "never":
        return is_empty(both(stands, what))
    if word == "back":
        return first_stuck(book, shelf, start, what) is None if shelf else is_within(start, what)
    if word == "most":
        longest = longest_standing(book, shelf or ((),), start)
        return longest is not None and longest <= what
    return what in named and is_within(stands, domain(reader_of(book, named[what])))


def named_of(gate):
    return {name: gate.weft(name) for name in gate.names()}


class Promises(unittest.TestCase):
    def test_beside_what_can_stand(self):
        kinds = set()
        for random, book, gate in gates():
            named = named_of(gate)
            shelf = tuple(named[name] for name in sorted(named))
            for _ in range(12):
                promise = some_promise(random, book.letters)
                holds = does_promise_hold(mill=gate.mill, promise=promise)
                self.assertIs(holds, does_hold_by_hand(book, named, promise))
                paper = promise_breaks(mill=gate.mill, promise=promise)
                self.assertEqual(paper is None, holds)
                kinds.add((promise[0], holds, bool(named), paper and paper[0]))
                if not holds:
                    self.assertIs(breaks_holds(mill=gate.mill, promise=promise, thing=paper), True)
                    self.check_paper(book, shelf, named, promise, paper)
                for thing in (("comes", "", ()), ("stuck", "", (), all_webs(book.letters)), ("no name", promise[2]), None,
                              ("shut", all_webs(book.letters)), ("back", all_webs(book.letters))):
                    if breaks_holds(gate.mill, promise, thing):
                        self.assertFalse(holds)
        for word in ("never", "back", "most", "fits"):
            for holds in (True, False):
                for named in (True, False):
                    found = [kind for kind in kinds if kind[:3] == (word, holds, named)]
                    self.assertTrue(found or (word, holds, named) == ("fits", True, False), (word, holds, named))
        self.assertIn(("fits", False, True, "comes"), kinds)
        self.assertIn(("fits", False, True, "no name"), kinds)

    def check_paper(self, book, shelf, named, promise, paper):
        """Each word of a paper, by itself."""
        word, start, what = promise
        if paper[0] == "no name":
            self.assertEqual((paper, word), (("no name", what), "fits"))
            self.assertNotIn(what, named)
            return
        self.assertTrue(start.says(paper[1]))
        led = course_led(book, shelf, paper[1], paper[2])
        if word == "back":
            self.assertEqual(paper[0], "stuck")
            self.assertTrue(paper[3].says(led) and is_empty(both(paper[3], what)))
            return
        self.assertEqual(paper[0], "comes")
        bad = {"never": lambda: what.says(led), "most": lambda: len(led) > what,
               "fits": lambda: not domain(reader_of(book, named[what])).says(led)}
        self.assertTrue(bad[word]())

    def test_any_paper_is_right(self):
        gate = Gate(Mill(PLAIN))
        gate.put("lay", ("a",))
        promise = ("most", BARE, 1)
        for course, right in (((0, 0), True), ((0, 0, 0), True), ((0,), False), ((), False), ((1,), False), ([0, 0], False)):
            self.assertIs(breaks_holds(gate.mill, promise, ("comes", "", course)), right)
        self.assertIs(breaks_holds(gate.mill, promise, ("comes", "a", (0, 0))), False)
        self.assertIs(breaks_holds(gate.mill, ("fits", BARE, "lay"), ("no name", "lay")), False)
        self.assertIs(breaks_holds(gate.mill, ("fits", BARE, "no"), ("no name", "no")), True)
        for thing in (("no name", "lay"), ("no name",), ("no name", "no", 1), ["no name", "no"], ("comes", "", ())):
            self.assertIs(breaks_holds(gate.mill, ("fits", BARE, "no"), thing), False)
        # A stuck paper is none for another word.
        stuck = ("stuck", "", (0,), but_not(all_webs("ab"), BARE))
        self.assertIs(breaks_holds(gate.mill, ("back", BARE, BARE), stuck), True)
        self.assertIs(breaks_holds(gate.mill, ("never", BARE, ending("ab", "a")), stuck), False)
        self.assertIs(breaks_holds(gate.mill, ("back", BARE, BARE), ("comes", "", (0,))), False)

    def test_long_papers(self):
        """Of more than 200 wefts no paper is told, though the promise does not hold."""
        book = Book("a", ())
        goal = lone_web("a", "a" * 60)
        for word, what in (("never", goal), ("most", 59)):
            mill = Mill(book)
            gate = Gate(mill)
            gate.put("lay", ("a",))
            self.assertEqual(promise_breaks(mill, (word, lone_web("a", ""), what)), ("comes", "", (0,) * 60))
        lone = lone_web("a", "a" * 201)
        for word, what in (("never", lone), ("never", but_not(ending("a", "a" * 201), no_webs("a")))):
            promise = (word, lone_web("a", ""), what)
            self.assertEqual((promise_breaks(mill, promise), does_promise_hold(mill, promise)), (None, False))
            error = raised(Broken, lambda: gate.put_promise(promise))
            self.assertEqual((error.promise, error.paper), (promise, None))
            self.assertIs(breaks_holds(mill, promise, ("comes", "", (0,) * 201)), True)
            self.assertIs(breaks_holds(mill, promise, None), False)
        promise = ("never", lone_web("a", "a"), lone)
        self.assertEqual(len(promise_breaks(mill, promise)[2]), 200)
        # The first web that is stuck is one of so many letters.
        mill = Mill(PLAIN)
        gate = Gate(mill)
        gate.put("lay", ("a",))
        for many in (200, 201):
            comes = but_not(all_webs("ab"), ending("ab", "a" * many))
            promise = ("back", BARE, comes)
            self.assertIs(does_promise_hold(mill, promise), False)
            paper = promise_breaks(mill, promise)
            self.assertEqual(paper and paper[:3], ("stuck", "", (0,) * 200) if many == 200 else None)
            self.assertIs(raised(Broken, lambda: gate.put_promise(promise)).paper is None, many == 201)

    def test_without_named_wefts(self):
        mill = Mill(PAIRS)
        self.assertIs(does_promise_hold(mill, ("most", BARE, 0)), True)
        self.assertIs(does_promise_hold(mill, ("never", BARE, lone_web("ab", "a"))), True)
        self.assertEqual(promise_breaks(mill, ("never", BARE, BARE)), ("comes", "", ()))
        self.assertIs(does_promise_hold(mill, ("back", BARE, all_webs("ab"))), True)
        paper = promise_breaks(mill, ("back", all_webs("ab"), BARE))
        self.assertEqual(paper[:3], ("stuck", "a", ()))
        self.assertIs(breaks_holds(mill, ("back", all_webs("ab"), BARE), paper), True)
        self.assertEqual(promise_breaks(mill, ("fits", no_webs("ab"), "a")), ("no name", "a"))
        self.assertIs(does_promise_hold(mill, ("most", no_webs("ab"), 0)), True)


class Gates(unittest.TestCase):
    def test_examples(self):
        gate = Gate(Mill(MARKS))
        promise = ("most", lone_web("am", ""), 1)
        self.assertIsNone(gate.put("mark", ("m",)))
        self.assertIsNone(gate.put_promise(promise))
        error = raised(Broken, lambda: gate.bring(Book("am", ())))
        self.assertEqual(error.promise, promise)
        self.assertIs(breaks_holds(gate.mill, promise, ("comes", "", (0, 0))), False)
        self.assertEqual(error.paper, ("comes", "", (0, 0)))
        self.assertEqual(gate.mill.book_now, MARKS)

    def test_names(self):
        gate = Gate(mill=Mill(POP))
        self.assertEqual((gate.names(), gate.promises()), ((), ()))
        wefts = {"b": ("b",), "abcdefgh": (), "ab": ("?a", "x"), "a": ("?-",)}
        for name, weft in wefts.items():
            gate.put(name=name, weft=weft)
        self.assertEqual(gate.names(), ("a", "ab", "abcdefgh", "b"))
        for name, weft in wefts.items():
            self.assertEqual(gate.weft(name=name), weft)
        gate.take_away(name="ab")
        self.assertEqual(gate.names(), ("a", "abcdefgh", "b"))
        self.assertEqual(raised(NoName, lambda: gate.weft("ab")).name, "ab")
        gate.put("ab", ("b",))
        self.assertEqual(gate.weft("ab"), ("b",))

    def test_all_gates_of_a_mill_tell_the_same(self):
        mill = Mill(PLAIN)
        one, other = Gate(mill), Gate(mill)
        self.assertIs(one.mill, mill)
        one.put("a", ("a",))
        other.put_promise(("fits", BARE, "a"))
        self.assertEqual((other.names(), one.promises(), Gate(mill).names()), (("a",), other.promises(), ("a",)))
        mill.undo()
        self.assertEqual((one.promises(), other.promises()), ((), ()))
        mill.redo()
        self.assertEqual(len(one.promises()), 1)
        self.assertEqual(Gate(Mill(PLAIN)).names(), ())

    def test_the_first_promise_that_does_not_hold(self):
        gate = Gate(Mill(PLAIN))
        promises = [("most", BARE, 3), ("never", BARE, lone_web("ab", "b")), ("back", BARE, all_webs("ab"))]
        for promise in promises:
            gate.put_promise(promise=promise)
        self.assertEqual(gate.promises(), tuple(promises))
        self.assertEqual(raised(Broken, lambda: gate.put("lay", ("b",))).promise, promises[0])
        error = raised(Broken, lambda: gate.put("lay", ("?-", "b")))
        self.assertEqual((error.promise, error.paper), (promises[1], ("comes", "", (0,))))
        gate.put("lay", ("?-", "a"))
        self.assertEqual(raised(Broken, lambda: gate.put_promise(("most", BARE, 0))).promise, ("most", BARE, 0))
        self.assertEqual(raised(Broken, lambda: gate.put_promise(("fits", BARE, "lay"))).paper, ("comes", "", (0,)))
        # A promise of a weft keeps it from being taken away.
        gate.put("any", ())
        gate.put_promise(("fits", BARE, "any"))
        error = raised(Broken, lambda: gate.take_away("any"))
        self.assertEqual((error.promise, error.paper), (("fits", BARE, "any"), ("no name", "any")))
        self.assertEqual((gate.names(), len(gate.promises())), (("any", "lay"), 4))

    def test_a_weft_that_is_taken_away_may_be_needed(self):
        gate = Gate(Mill(PAIRS))
        gate.put("a", ("a",))
        gate.put("b", ("?a", "a"))
        gate.put_promise(("back", BARE, BARE))
        gate.take_away("b")
        gate.take_away("a")
        gate = Gate(Mill(PLAIN))
        gate.put("lay", ("?-", "a"))
        self.assertEqual(raised(Broken, lambda: gate.put_promise(("back", BARE, BARE))).paper[:3], ("stuck", "", (0,)))
        gate = Gate(Mill(POP))
        bare = lone_web("abx", "")
        gate.put("lay", ("?-", "a"))
        gate.put("off", ("?a", "x"))
        gate.put_promise(("back", bare, bare))
        self.assertEqual(raised(Broken, lambda: gate.take_away("off")).promise, ("back", bare, bare))
        gate.take_away("lay")
        gate.take_away("off")
        self.assertEqual(gate.names(), ())

    def test_all_promises_hold_at_every_moment(self):
        """Deeds of gates, each done or refused as all promises tell behind it."""
        kinds = set()
        for random, book, gate in gates():
            named, promises = named_of(gate), []
            for _ in range(14):
                book_then, named_then, promises_then = gate.mill.book_now, dict(named), list(promises)
                kind = random.choice(("put", "take_away", "put_promise", "put_promise", "bring", "undo"))
                if kind == "put" and len(named) < 4:
                    name = random.choice([name for name in NAMES if name not in named])
                    parts = (name, some_shelf(random, book.letters)[0][:2])
                    named_then[name] = parts[1]
                elif kind == "take_away" and named:
                    parts = (random.choice(sorted(named)),)
                    del named_then[parts[0]]
                elif kind == "put_promise" and len(promises) < 5:
                    parts = (some_promise(random, book.letters),)
                    promises_then.append(parts[0])
                elif kind == "bring":
                    parts = (some_book(random, book.letters),)
                    book_then = parts[0]
                else:
                    continue
                broken = [promise for promise in promises_then if not does_hold_by_hand(book_then, named_then, promise)]
                kinds.add((kind, bool(broken)))
                if broken:
                    error = raised(Broken, lambda: getattr(gate, kind)(*parts))
                    self.assertEqual(error.promise, broken[0])
                    self.assertIsNotNone(error.paper)
                else:
                    self.assertIsNone(getattr(gate, kind)(*parts))
                    named, promises = named_then, promises_then
                    self.assertEqual(gate.mill.book_now, book_then)
                self.assertEqual((named_of(gate), gate.promises()), (named, tuple(promises)))
                for promise in gate.promises():
                    self.assertIs(does_promise_hold(gate.mill, promise), True)
        self.assertEqual(len(kinds), 8)

    def test_bring(self):
        mill = Mill(PLAIN, "a")
        gate = Gate(mill)
        mill.begin()
        mill.begin()
        self.assertEqual(mill.ask(0, "b"), ("told", "b"))
        self.assertEqual(mill.ask(0, "?"), ("told", "?b"))
        book = Book("ab", (("a", "b", ""),))
        error = raised(Unsound, lambda: gate.bring(book))
        self.assertEqual(error.outcome, (0,))
        self.assertIsNone(first_order(book, mill.log_now, (0,), "a"))
        for other in (POP, Book("a", ()), Book("abc", ())):
            raised(OtherLetters, lambda: gate.bring(other))
        before = (mill.log_now, mill.news_now)
        again = Book("ab", (("b", "b", ""),))
        gate.bring(book=again)
        self.assertIs(mill.book_now, again)
        self.assertEqual((mill.log_now, mill.news_now), before)
        mill.undo()
        self.assertEqual(mill.book_now, PLAIN)
        # Unsound comes ahead of promises.
        gate.put("lay", ("b",))
        gate.put_promise(("never", lone_web("ab", "a"), BARE))
        self.assertEqual(raised(Unsound, lambda: gate.bring(book)).outcome, (0,))
        mill.take_out(0)
        self.assertEqual(raised(Broken, lambda: gate.bring(book)).paper, ("comes", "a", (0,)))

    def test_an_equal_edition_is_a_deed(self):
        mill = Mill(PLAIN)
        gate = Gate(mill)
        gate.bring(Book("ab", ()))
        mill.undo()
        raised(NothingToUndo, mill.undo)
        mill.redo()
        raised(NothingToRedo, mill.redo)

    def test_what_is_taken_back(self):
        mill = Mill(PLAIN)
        gate = Gate(mill)
        moments = []
        promise = ("fits", BARE, "a")
        for deed in (lambda: gate.put("a", ()), lambda: mill.begin(), lambda: gate.put_promise(promise),
                     lambda: gate.put("b", ("b",)), lambda: gate.take_away("b"), lambda: mill.hand_in(0),
                     lambda: gate.bring(Book("ab", (("a", "a", ""),)))):
            moments.append((gate.names(), gate.promises(), mill.book_now, mill.log_now))
            deed()
        for moment in moments[::-1]:
            mill.undo()
            self.assertEqual((gate.names(), gate.promises(), mill.book_now, mill.log_now), moment)
        raised(NothingToUndo, mill.undo)
        for _ in moments:
            mill.redo()
        self.assertEqual((gate.names(), gate.promises(), mill.book_now.folds), (("a",), (promise,), (("a", "a", ""),)))
        # What was refused is no deed, and takes nothing from what can be made again.
        mill.undo()
        for call in (lambda: gate.put("a", ()), lambda: gate.take_away("c"), lambda: gate.take_away("a"),
                     lambda: gate.put_promise(("most", BARE, 61)), lambda: gate.bring(POP), lambda: gate.put("c", ("c",))):
            with self.assertRaises((BadName, NoName, Broken, BadPromise, OtherLetters, BadWeft)):
                call()
        mill.redo()
        self.assertEqual(mill.book_now.folds, (("a", "a", ""),))

    def test_wrong_names_and_wefts(self):
        gate = Gate(Mill(POP))
        gate.put("name", ("a",))
        for thing in WRONG:
            is_name = isinstance(thing, str) and thing in ("a", "ba", "aa")
            if not is_name:
                self.assertIs(raised(BadName, lambda: gate.put(thing, thing)).name, thing)
            self.assertIs(raised(NoName, lambda: gate.weft(thing)).name, thing)
            self.assertIs(raised(NoName, lambda: gate.take_away(thing)).name, thing)
            if thing not in ((), ("a",)) or not isinstance(thing, tuple):
                self.assertIs(raised(BadWeft, lambda: gate.put("new", thing)).thing, thing)
        for name in ("name", "", "abcdefghi", "A", "a b", "a1", "a-", "\n"):
            self.assertEqual(raised(BadName, lambda: gate.put(name, None)).name, name)
        self.assertEqual(gate.names(), ("name",))

    def test_wrong_promises(self):
        gate = Gate(Mill(PLAIN))
        gate.put("a", ())
        right = [("never", BARE, lone_web("ab", "a")), ("back", BARE, BARE), ("most", BARE, 0), ("most", BARE, 60),
                 ("fits", BARE, "a")]
        for promise in right:
            gate.mill.tried(lambda mill: Gate(mill).put_promise(promise))
        others = [("most", BARE, 61), ("most", BARE, -1), ("most", BARE, True), ("most", BARE, 10 ** 39), ("fits", BARE, ""),
                  ("fits", BARE, "abcdefghi"), ("fits", BARE, ("a",)), ("fits", all_webs("a"), "a"), ("ever", BARE, BARE),
                  ("never", BARE, all_webs("abc")), ("back", all_webs("abc"), BARE), ("most", Teller("ab", (("says", ""),)), 1),
                  ("never", BARE, X), ("fits", BARE, "no", 1), ("back", BARE), ["back", BARE, BARE], ("most", BARE, "1")]
        for thing in others:
            self.assertIs(raised(BadPromise, lambda: gate.put_promise(thing)).thing, thing)
        for thing in WRONG:
            for promise in (thing, (thing, BARE, BARE), ("most", thing, 1), ("never", BARE, thing), ("back", thing, BARE),
                            ("most", BARE, (thing,)), ("fits", BARE, [thing])):
                is_ends = isinstance(thing, Teller) and isinstance(promise, tuple)
                if not is_ends:
                    self.assertIs(raised(BadPromise, lambda: gate.put_promise(promise)).thing, promise)
        self.assertEqual(gate.promises(), ())

    def test_wrong_papers(self):
        gate = Gate(Mill(PLAIN))
        gate.put("lay", ("a",))
        for promise in (("never", BARE, ending("ab", "aa")), ("back", BARE, BARE), ("most", BARE, 1), ("fits", BARE, "no")):
            paper = promise_breaks(gate.mill, promise)
            for thing in WRONG:
                for value in (thing, [thing], (thing, "", ()), ("comes", thing, thing), ("comes", "", thing),
                              ("stuck", "", (0,), thing), ("no name", thing), ("no name", "no", thing)):
                    self.assertIs(breaks_holds(gate.mill, promise, value), False)
            for thing in altered(paper):
                longer = isinstance(thing, tuple) and len(thing) > 2 and repr(thing[2]) in ("(0, 0, 0)", "(0, 0)") \
                    and thing[:2] == paper[:2] and repr(thing[3:]) == repr(paper[3:])
                self.assertIs(breaks_holds(gate.mill, promise, thing), repr(thing) == repr(paper) or longer, thing)


if __name__ == "__main__":
    unittest.main()
