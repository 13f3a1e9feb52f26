"""[3.5] and the interface of moving, beside all exchanges gone through one by one."""

import unittest

from millhands.errors import BadWeft
from millhands.items import do_items_pass, items_of
from millhands.moving import all_moved, do_move, first_form, judge_moved, many_moved, moved_holds, steps_of
from millhands.wefts import reader_of
from tests.support import BOOKS, PLAIN, POP, WRONG, altered, seeded, some_book, some_weft

EVENS = {}


def are_even(book, item, further):
    key = (str(book), item, further)
    if key not in EVENS:
        EVENS[key] = do_items_pass(book, "even", item, further)
    return EVENS[key]


def moved_by_hand(book, weft):
    """All wefts that come of a weft by exchanges."""
    found = {weft}
    queue = [weft]
    while queue:
        last = queue.pop()
        for at in range(len(last) - 1):
            if last[at] != last[at + 1] and are_even(book, last[at], last[at + 1]):
                other = last[:at] + (last[at + 1], last[at]) + last[at + 2:]
                if other not in found:
                    found.add(other)
                    queue.append(other)
    return found


def wefts():
    random = seeded(70)
    for book in list(BOOKS) + [some_book(random, letters) for letters in ("a", "ab", "abc", "abc")]:
        for _ in range(6):
            yield book, some_weft(random, book.letters, 5)
        looks = [item for item in items_of(book) if item[0] == "?"]
        yield book, tuple(random.choice(looks) for _ in range(5))
        yield book, ("a", "a") + tuple(looks[:2]) + ("a",)


class Moving(unittest.TestCase):
    def test_examples(self):
        weft = ("?b", "?a", "a")
        self.assertEqual(first_form(POP, weft), ("?a", "?b", "a"))
        self.assertEqual(steps_of(POP, weft), (("?a", "?b"), ("a",)))
        self.assertEqual(many_moved(POP, weft), 2)
        self.assertEqual(judge_moved(POP, weft, ("?a", "?b", "a")), ("moved", (0,)))
        self.assertEqual(judge_moved(POP, ("?b", "a"), ("a", "?b")), ("apart", "?b", "a"))
        self.assertTrue(moved_holds(POP, weft, ("?a", "?b", "a"), ("moved", (0, 0, 0))))

    def test_beside_all_exchanges(self):
        for book, weft in wefts():
            moved = moved_by_hand(book, weft)
            self.assertEqual(many_moved(book=book, weft=weft), len(moved))
            self.assertEqual(list(all_moved(book=book, weft=weft)), sorted(moved))
            self.assertEqual(first_form(book=book, weft=weft), min(moved))
            reader = reader_of(book, weft)
            for other in moved:
                self.assertIs(do_move(book, weft, other), True)
                self.assertEqual(steps_of(book, other), steps_of(book, weft))
                self.assertEqual(reader_of(book, other), reader)
                paper = judge_moved(book, weft, other)
                self.assertEqual(paper[0], "moved")
                self.assertIs(moved_holds(book, weft, other, paper), True)

    def test_steps(self):
        for book, weft in wefts():
            steps = steps_of(book=book, weft=weft)
            self.assertIn(tuple(item for step in steps for item in step), moved_by_hand(book, weft))
            for at, step in enumerate(steps):
                self.assertTrue(step and list(step) == sorted(set(step)))
                for item in step:
                    self.assertTrue(all(item == other or are_even(book, item, other) for other in step))
                    ahead = steps[at - 1] if at else (item,)
                    self.assertTrue(any(item == other or not are_even(book, item, other) for other in ahead))

    def test_papers(self):
        random = seeded(71)
        kinds = set()
        for book, weft in wefts():
            other = list(weft)
            random.shuffle(other)
            for further in (tuple(other), weft[:-1], weft + ("a",), some_weft(random, book.letters, 5)):
                moved = further in moved_by_hand(book, weft)
                self.assertIs(do_move(book=book, one=weft, other=further), moved)
                paper = judge_moved(book, weft, further)
                kinds.add(paper[0])
                self.assertEqual(paper[0], "moved" if moved else "apart")
                self.assertIs(moved_holds(book, weft, further, paper), True)
                items = items_of(book)
                parting = [(item, last) for item in items for last in items
                           if moved_holds(book, weft, further, ("apart", item, last))]
                self.assertEqual(bool(parting), not moved)
                for item, last in parting:
                    self.assertLessEqual(item, last)
                    self.assertTrue(item == last or not are_even(book, item, last))
                for thing in altered(paper):
                    if moved_holds(book, weft, further, thing):
                        self.assertEqual(thing[0], paper[0])
        self.assertEqual(kinds, {"moved", "apart"})

    def test_wrong_papers(self):
        one, other = ("?b", "?a", "a"), ("?a", "?b", "a")
        for thing in WRONG + (("moved", 0), ("moved", [0]), ("moved", (False,)), ("moved", (1,)), ("moved", (-3,)),
                              ("moved", (2,)), ("moved", (0, 0)), ("moved", ("0",)), ("moved", ()), ["moved", (0,)],
                              ("moved", (0,), ()), ("apart", "?a", "?b"), ("apart", "?a", "?a"), ("apart", "a", "a"),
                              ("moved", (None,)), ("moved", (10 ** 39,)), ("apart", None, None), ("apart", "?a")):
            self.assertIs(moved_holds(book=POP, one=one, other=other, thing=thing), False)
        self.assertTrue(moved_holds(POP, ("?b", "a"), ("a", "?b"), ("apart", "?b", "a")))
        self.assertFalse(moved_holds(POP, ("?b", "a"), ("a", "?b"), ("apart", "a", "?b")))
        self.assertFalse(moved_holds(POP, ("?b", "a"), ("a", "?b"), ("moved", (0,))))
        self.assertTrue(moved_holds(POP, ("a", "a"), ("a",), ("apart", "a", "a")))
        self.assertTrue(moved_holds(POP, ("a", "a"), ("a",), ("apart", "a", "b")))
        self.assertFalse(moved_holds(POP, ("?a", "?b"), ("?a",), ("apart", "?a", "?b")))
        self.assertTrue(moved_holds(POP, ("?a", "?b"), ("?a",), ("apart", "?b", "?b")))
        self.assertFalse(moved_holds(POP, ("a", "a"), ("a", "a"), ("moved", (0,))))
        self.assertTrue(moved_holds(POP, (), (), ("moved", ())))
        self.assertFalse(moved_holds(PLAIN, ("a",), ("b",), ("apart", "c", "c")))

    def test_edges(self):
        self.assertEqual(first_form(POP, ()), ())
        self.assertEqual(steps_of(POP, ()), ())
        self.assertEqual(many_moved(POP, ()), 1)
        self.assertEqual(list(all_moved(POP, ())), [()])
        self.assertEqual(judge_moved(POP, (), ()), ("moved", ()))
        self.assertEqual(steps_of(POP, ("?a", "?a", "?b")), (("?a", "?b"), ("?a",)))

    def test_limits(self):
        looks = ("?-", "?a", "?b", "?x") * 2
        self.assertEqual(many_moved(POP, looks), 2520)
        self.assertEqual(len(list(all_moved(POP, looks))), 2520)
        self.assertEqual(next(all_moved(POP, looks[::-1])), tuple(sorted(looks)))
        paper = judge_moved(POP, looks, looks[::-1])
        self.assertTrue(moved_holds(POP, looks, looks[::-1], paper))
        self.assertEqual(steps_of(POP, looks), (("?-", "?a", "?b", "?x"),) * 2)

    def test_wrong_wefts(self):
        for thing in ("a", None, ("c",), ["a"], ("a", "?"), 0, POP):
            for call in (do_move, judge_moved, lambda *three: moved_holds(*three, 7)):
                for pair in ((thing, 7), (("a",), thing)):
                    with self.assertRaises(BadWeft) as caught:
                        call(PLAIN, *pair)
                    self.assertIs(caught.exception.thing, thing)
            for call in (first_form, steps_of, many_moved, lambda *two: next(all_moved(*two))):
                with self.assertRaises(BadWeft) as caught:
                    call(PLAIN, thing)
                self.assertIs(caught.exception.thing, thing)
            # Nothing is raised before the first one is asked for.
            all_moved(PLAIN, thing)
