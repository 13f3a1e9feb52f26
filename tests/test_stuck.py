"""[5.5]: stuck lots and ways out, beside all sets of lots."""

import unittest
from itertools import combinations

from millhands.answers import least_releases, status
from millhands.errors import BadWeb, BadWish, Unsound
from millhands.logs import taken_out
from millhands.sheds import is_sound
from millhands.stuck import hangs_on, stuck_lots, ways_out
from tests.support import (BOOKS, PLAIN, POP, WRONG, Book, raised, seeded, some_book, some_web, told_log)
from tests.test_answers import LOOKER
from tests.test_logs import T1
from tests.test_wishes import KEEPER

CROSS = ((0, False, (), ("a",)), (1, False, (0,), ("?a", "x")))
CROSSING = ((0, "b"), (1, "?"))


def cases():
    random = seeded(250)
    yield POP, CROSS, CROSSING, "a"
    for turn in range(60):
        book = BOOKS[turn % len(BOOKS)] if turn % 2 else some_book(random, random.choice(["a", "ab", "abc"]))
        web = some_web(random, book.letters, 3)
        log = told_log(random, book, web, random.choice([2, 3, 4]), 5, 3)
        still = [lot[0] for lot in log if not lot[1]]
        random.shuffle(still)
        wishes = tuple((number, random.choice(book.letters + "??")) for number in still if random.random() < 0.8)
        yield book, log, wishes, web


def parts(numbers):
    return [some for many in range(len(numbers) + 1) for some in combinations(sorted(numbers), many)]


def names(release, lots):
    return bool(set(release[0] + release[1]) & set(lots))


def stuck_by_hand(book, log, wishes, web):
    """The lots that are in some stuck set, of all sets of lots that wish."""
    found = set()
    releases = {wish[0]: least_releases(book, log, wish, web) for wish in wishes}
    states = {wish[0]: status(book, log, wish, web)[0] for wish in wishes}
    for lots in parts(releases):
        if all(states[lot] in ("waits", "never") and all(names(release, lots) for release in releases[lot]) for lot in lots):
            found |= set(lots)
    return tuple(sorted(found))


def without(log, lots):
    for number in lots:
        log = taken_out(log, number)
    return log


class Stuck(unittest.TestCase):
    def test_example(self):
        self.assertEqual(stuck_lots(POP, CROSS, CROSSING, "a"), (0, 1))
        self.assertEqual(ways_out(POP, CROSS, CROSSING, "a"), ((0,), (1,)))
        self.assertEqual(hangs_on(POP, CROSS, (1, "?"), "a"), (0,))
        self.assertEqual(hangs_on(POP, CROSS, (0, "b"), "a"), (1,))

    def test_one_wish_is_stuck_by_nobody_who_does_not_wish(self):
        self.assertEqual(stuck_lots(POP, CROSS, CROSSING[:1], "a"), ())
        self.assertEqual(ways_out(POP, CROSS, CROSSING[1:], "a"), ((),))

    def test_never_is_stuck_alone(self):
        log = ((0, False, (), ()), (1, True, (0,), ("?-",)), (2, False, (), ()))
        self.assertEqual(status(PLAIN, log, (0, "a"), ""), ("never",))
        self.assertEqual(stuck_lots(PLAIN, log, ((0, "a"),), ""), (0,))
        self.assertEqual(ways_out(PLAIN, log, ((0, "a"),), ""), ((0,),))
        self.assertEqual(hangs_on(PLAIN, log, (0, "a"), ""), ())

    def test_no_wishes(self):
        for book, log, _, web in cases():
            self.assertEqual(stuck_lots(book, log, (), web), ())
            self.assertEqual(ways_out(book, log, (), web), ((),))
        self.assertEqual(ways_out(PLAIN, (), (), "ab"), ((),))

    def test_hangs_on(self):
        self.assertEqual(hangs_on(PLAIN, LOOKER, (1, "?"), "b"), (0,))
        self.assertEqual(hangs_on(PLAIN, LOOKER, (1, "?"), "a"), ())
        found = set()
        for book, log, wishes, web in cases():
            for wish in wishes:
                releases = least_releases(book, log, wish, web)
                named = [set(release[0] + release[1]) for release in releases]
                wanted = tuple(sorted(set.intersection(*named))) if named else ()
                found.add(len(wanted))
                self.assertEqual(hangs_on(book=book, log=log, wish=wish, web=web), wanted)
        self.assertTrue({0, 1} <= found)

    def test_stuck_beside_all_sets(self):
        sizes = set()
        for book, log, wishes, web in cases():
            wanted = stuck_by_hand(book, log, wishes, web)
            sizes.add(len(wanted))
            self.assertEqual(stuck_lots(book=book, log=log, wishes=wishes, web=web), wanted)
            self.assertEqual(stuck_lots(book, log, wishes[::-1], web), wanted)
        self.assertTrue({0, 1, 2} <= sizes, sizes)

    def test_ways_out_beside_all_sets(self):
        for book, log, wishes, web in cases():
            ways = []
            for lots in parts([lot[0] for lot in log if not lot[1]]):
                left = tuple(wish for wish in wishes if wish[0] not in lots)
                self.assertTrue(is_sound(book, without(log, lots), web))
                if stuck_by_hand(book, without(log, lots), left, web) == ():
                    ways.append(lots)
            least = [way for way in ways if not any(set(other) < set(way) for other in ways)]
            self.assertEqual(ways_out(book=book, log=log, wishes=wishes, web=web), tuple(sorted(least)))

    def test_wrong_wishes(self):
        for thing in WRONG:
            for call in (stuck_lots, ways_out):
                if thing != ():
                    error = raised(BadWish, lambda: call(POP, CROSS, thing, 0))
                    self.assertIs(error.thing, thing[0] if isinstance(thing, tuple) else thing)
                self.assertIs(raised(BadWish, lambda: call(POP, CROSS, (CROSSING[0], thing, thing), 0)).thing, thing)
            self.assertIs(raised(BadWish, lambda: hangs_on(POP, CROSS, thing, 0)).thing, thing)
        for call in (stuck_lots, ways_out):
            further = (0, "?")
            self.assertIs(raised(BadWish, lambda: call(POP, CROSS, CROSSING + (further, "no"), "a")).thing, further)
            self.assertEqual(raised(BadWish, lambda: call(POP, CROSS, list(CROSSING), "a")).thing, list(CROSSING))
            self.assertEqual(raised(BadWish, lambda: call(PLAIN, T1, ((0, "a"),), "")).thing, (0, "a"))

    def test_wrong_webs(self):
        for thing in ("c", None, ("a",), 0, True, ["a"], PLAIN):
            for call in (lambda: stuck_lots(POP, CROSS, CROSSING, thing), lambda: ways_out(POP, CROSS, (), thing),
                         lambda: hangs_on(POP, CROSS, (0, "b"), thing)):
                self.assertIs(raised(BadWeb, call).thing, thing)

    def test_unsound(self):
        for call in (lambda: stuck_lots(PLAIN, KEEPER, (), "a"), lambda: ways_out(PLAIN, KEEPER, (), "a"),
                     lambda: hangs_on(PLAIN, KEEPER, (0, "a"), "a")):
            self.assertEqual(raised(Unsound, call).outcome, (1,))

    def test_three_that_wait(self):
        """Three hands, each behind the ones ahead of it, that look: the first one alone can be told."""
        book = Book("ab", (("a", "b", ""),))
        log = ((0, False, (), ("a",)), (1, False, (0,), ("b",)), (2, False, (0, 1), ()))
        wishes = ((0, "b"), (1, "?"), (2, "?"))
        self.assertEqual(stuck_lots(book, log, wishes, ""), stuck_by_hand(book, log, wishes, ""))


if __name__ == "__main__":
    unittest.main()
