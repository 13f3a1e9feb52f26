"""[8.1], [8.2], [8.4]: courses, what can stand and come, beside webs and courses gone through one by one."""

import unittest

from millhands.books import Book
from millhands.courses import (coming, course_led, fewest_wefts, idle_wefts, is_closed, is_shelf, longest_standing, sights,
                               standing)
from millhands.errors import BadCourse, BadWeb, OtherLetters, TooMany
from millhands.tellers import (Teller, all_webs, both, but_not, either, ending, first_web, is_empty, is_within, lone_web,
                               many_webs, no_webs)
from millhands.wefts import done
from tests.support import (BOOKS, MARKS, ONE, PAIRS, PLAIN, POP, WRONG, X, raised, seeded, some_book, some_ends,
                           some_shelf, some_web, webs_to)

BARE = lone_web("ab", "")
# A c becomes bbb, a b becomes aa, an a goes.
EATING = Book("abc", (("a", "c", ""), ("b", "a", "a"), ("c", "b", "b")))
EATERS = (("?c", "b", "b", "b"), ("?b", "a", "a"), ("?a", "c"))


def some_start(random, letters):
    kind = random.random()
    if kind < 0.4:
        return some_ends(random, letters, random.randint(1, 8))
    return no_webs(letters) if kind < 0.45 else lone_web(letters, some_web(random, letters, 4))


def cases():
    random = seeded(400)
    for book in list(BOOKS) + [some_book(random, letters) for letters in ("a", "ab", "abc", "ab", "abc") * 8]:
        for _ in range(3):
            shelf = some_shelf(random, book.letters)
            yield random, book, shelf, some_start(random, book.letters), some_start(random, book.letters)


def led_once(book, shelf, webs):
    """All webs to which one weft of a shelf leads some webs."""
    found = {done(book, weft, web) for web in webs for weft in shelf}
    return found - {None}


def met_by_hand(book, shelf, webs, most):
    """Webs that can stand from some webs: those that come up with only webs of at most so many letters on the way."""
    met = set(webs)
    fresh = met
    while fresh:
        fresh = {web for web in led_once(book, shelf, fresh) if len(web) <= most} - met
        met |= fresh
    return met


class Courses(unittest.TestCase):
    def test_examples(self):
        shelf = (("a", "b"),)
        stands = standing(PLAIN, shelf, BARE)
        self.assertEqual([web for web in webs_to("ab", 6) if stands.says(web)], ["", "ab", "abab", "ababab"])
        self.assertIsNone(longest_standing(PLAIN, shelf, BARE))
        self.assertEqual(sights(PLAIN, shelf, BARE), ("", "b"))
        self.assertEqual(standing(PAIRS, (("a",),), BARE), either(BARE, lone_web("ab", "a")))
        self.assertEqual(longest_standing(PAIRS, (("a",),), BARE), 1)
        stands = standing(PAIRS, (("a",), ("b",)), BARE)
        for web in webs_to("ab", 6):
            self.assertEqual(stands.says(web), "aa" not in web and "bb" not in web)
        shelf = (("?-", "a"), ("?a", "b"))
        stands = standing(PLAIN, shelf, BARE)
        self.assertEqual([web for web in webs_to("ab", 4) if stands.says(web)], ["", "a", "ab"])
        self.assertEqual(idle_wefts(PLAIN, shelf, BARE), ())
        self.assertEqual(fewest_wefts(PLAIN, (("a",),), BARE, lone_web("ab", "aaa")), 3)
        comes = coming(POP, (("x",),), lone_web("abx", ""))
        for web in webs_to("abx", 4):
            self.assertEqual(comes.says(web), "x" not in web)

    def test_is_shelf(self):
        random = seeded(401)
        for letters in ("a", "ab", "abx"):
            for _ in range(20):
                self.assertIs(is_shelf(letters=letters, thing=some_shelf(random, letters)), True)
        for thing in WRONG:
            self.assertIs(is_shelf("abx", thing), thing in (((),), ((), ())) and isinstance(thing, tuple))
            if thing not in ((), ("a",)) or not isinstance(thing, tuple):
                self.assertIs(is_shelf("abx", (("a",), thing)), False)
        for thing in ((), [("a",)], (["a"],), (("c",),), (("a", "?"),), (("a",), ("ab",)), ("a",), "a", (("?ab",),)):
            self.assertIs(is_shelf("abx", thing), False, thing)
        self.assertIs(is_shelf("abx", ((), ("?-", "a"))), True)

    def test_course_led(self):
        for random, book, shelf, _, _ in cases():
            for _ in range(6):
                web = some_web(random, book.letters, 4)
                course = tuple(random.randrange(len(shelf)) for _ in range(random.randint(0, 5)))
                expected = web
                for number in course:
                    expected = None if expected is None else done(book, shelf[number], expected)
                self.assertEqual(course_led(book=book, shelf=shelf, web=web, course=course), expected)

    def test_long_courses(self):
        self.assertEqual(course_led(PLAIN, (("a", "b", "a", "b"),), "b", (0,) * 300), "b" + "abab" * 300)
        self.assertEqual(course_led(PAIRS, (("a",), ("b",)), "", (0, 1) * 150 + (1, 0) * 150), "")

    def test_wrong_courses(self):
        shelf = (("a",), ("x",))
        for thing in WRONG:
            if not isinstance(thing, str) or not set(thing) <= set("abx"):
                self.assertIs(raised(BadWeb, lambda: course_led(POP, shelf, thing, thing)).thing, thing)
            if not isinstance(thing, tuple):
                self.assertEqual(raised(BadCourse, lambda: course_led(POP, shelf, "a", thing)).place, -1)
            if isinstance(thing, bool) or thing not in (0, 1):
                self.assertEqual(raised(BadCourse, lambda: course_led(POP, shelf, "a", (thing,))).place, 0)
                self.assertEqual(raised(BadCourse, lambda: course_led(POP, shelf, "a", (0, 1, thing, -1))).place, 2)
        for course, place in (((2,), 0), ((0, -1), 1), ((0, 1, 10 ** 39), 2), ((0, True), 1), ((0, (0,), 5), 1)):
            self.assertEqual(raised(BadCourse, lambda: course_led(POP, shelf, "", course)).place, place)
        # Also where no weft of the course would fit.
        self.assertEqual(raised(BadCourse, lambda: course_led(POP, (("?a", "?b"),), "", (0, 1))).place, 1)
        self.assertEqual(course_led(POP, shelf, "ab", ()), "ab")

    def test_what_stands_is_closed_and_led_to(self):
        """The one bounds what can stand from above, courses from below."""
        rings = 0
        for _, book, shelf, start, _ in cases():
            stands = standing(book=book, shelf=shelf, start=start, most=5000)
            self.assertTrue(stands.is_least() and is_within(start, stands) and is_closed(book, shelf, stands))
            for web in webs_to(book.letters, 4 if len(book) < 3 else 3):
                if stands.says(web):
                    for other in led_once(book, shelf, [web]):
                        self.assertTrue(stands.says(other))
            for web in [web for web in webs_to(book.letters, 3) if stands.says(web)][:8]:
                self.assertIsNotNone(fewest_wefts(book, shelf, start, lone_web(book.letters, web)))
            for web in [web for web in webs_to(book.letters, 3) if not stands.says(web)][:4]:
                self.assertIsNone(fewest_wefts(book, shelf, start, lone_web(book.letters, web)))
            rings += longest_standing(book, shelf, start) is None
        self.assertGreater(rings, 20)

    def test_what_comes_is_what_others_stand_from(self):
        for random, book, shelf, _, goal in cases():
            comes = coming(book=book, shelf=shelf, goal=goal, most=5000)
            self.assertTrue(comes.is_least() and is_within(goal, comes))
            # What cannot come is closed.
            self.assertTrue(is_closed(book, shelf, but_not(all_webs(book.letters), comes)))
            for web in random.sample(webs_to(book.letters, 3), 4 if len(book) > 1 else 3):
                stands = standing(book, shelf, lone_web(book.letters, web), most=5000)
                self.assertEqual(comes.says(web), not is_empty(both(stands, goal)))

    def test_beside_webs_gone_through(self):
        """All that comes up by short webs stands; where short webs lead to no longer ones nothing else does."""
        bounded = 0
        for random, book, shelf, start, goal in cases():
            webs = [web for web in webs_to(book.letters, 3) if start.says(web)][:5]
            if not webs:
                continue
            some = no_webs(book.letters)
            for web in webs:
                some = either(some, lone_web(book.letters, web))
            stands = standing(book, shelf, some, most=5000)
            found = met_by_hand(book, shelf, webs, 6)
            self.assertTrue(all(stands.says(web) for web in found))
            if all(len(web) <= 6 for web in led_once(book, shelf, found)):
                bounded += 1
                self.assertEqual({web for web in webs_to(book.letters, 6) if stands.says(web)}, found)
                self.assertEqual(longest_standing(book, shelf, some), max(len(web) for web in found))
                self.assertEqual(sights(book, shelf, some), tuple(sorted({web[-1:] for web in found})))
                idle = tuple(number for number, weft in enumerate(shelf)
                             if all(done(book, weft, web) is None for web in found))
                self.assertEqual(idle_wefts(book, shelf, some), idle)
        self.assertGreater(bounded, 30)

    def test_fewest_wefts_by_hand(self):
        """Webs that come up by so many wefts are gone through as long as they are few."""
        many = {}
        for random, book, shelf, start, goal in cases():
            webs = [web for web in webs_to(book.letters, 2) if start.says(web)][:3]
            some = no_webs(book.letters)
            for web in webs:
                some = either(some, lone_web(book.letters, web))
            levels = [set(webs)]
            while levels[-1] and len(levels) < 14 and sum(len(level) for level in levels) < 250:
                levels.append(led_once(book, shelf, levels[-1]) - set().union(*levels))
            late = [lone_web(book.letters, sorted(level)[0]) for level in levels[1:] if level]
            for asked in [goal, *late]:
                found = [at for at, level in enumerate(levels) if any(asked.says(web) for web in level)]
                fewest = fewest_wefts(book=book, shelf=shelf, start=some, goal=asked)
                if found:
                    self.assertEqual(fewest, found[0])
                    many[fewest] = many.get(fewest, 0) + 1
                elif not levels[-1]:
                    self.assertIsNone(fewest)
                elif fewest is not None:
                    self.assertGreaterEqual(fewest, len(levels))
        self.assertTrue(set(range(9)) <= set(many), many)

    def test_great_fewest_wefts(self):
        bare = lone_web("abc", "")
        for web, fewest in (("a", 1), ("b", 3), ("c", 10), ("c" * 60, 600), ("cba" * 20, 280), ("x", None)):
            if fewest:
                self.assertEqual(fewest_wefts(EATING, EATERS, lone_web("abc", web), bare), fewest)
        # All lengths that leave these rests by 8, by 7 and by 5.
        rests = {many: Teller("a", tuple(("reads", at == 0, (at + 1) % many) for at in range(many))) for many in (8, 7, 5)}
        goal = all_webs("a")
        for many in rests:
            goal = both(goal, rests[many])
        self.assertEqual(fewest_wefts(Book("a", ()), (("a", "a", "a"),), lone_web("a", "aa"), goal), 186)
        self.assertEqual(fewest_wefts(Book("a", ()), (("a",),), lone_web("a", "a"), goal), 279)
        self.assertIsNone(fewest_wefts(Book("a", ()), (("a", "a"),), lone_web("a", "a"), goal))

    def test_is_closed(self):
        kinds = set()
        for random, book, shelf, start, goal in cases():
            for ends in (start, goal, some_ends(random, book.letters, 6), all_webs(book.letters), no_webs(book.letters)):
                closed = is_closed(book=book, shelf=shelf, ends=ends)
                kinds.add(closed)
                webs = [web for web in webs_to(book.letters, 5 if len(book) < 3 else 4) if ends.says(web)]
                left = all(ends.says(web) for web in led_once(book, shelf, webs))
                if closed:
                    self.assertTrue(left)
                if not left:
                    self.assertFalse(closed)
                if not closed:
                    self.assertNotEqual(standing(book, shelf, ends, most=5000), ends.least())
        self.assertEqual(kinds, {True, False})
        self.assertFalse(is_closed(PLAIN, (("?-", "a"),), BARE))
        self.assertTrue(is_closed(PLAIN, (("?-", "?a"),), BARE))
        self.assertTrue(is_closed(MARKS, (("m",),), ending("am", "m")))

    def test_edges(self):
        none = no_webs("ab")
        shelf = (("a",), ("b", "?a"))
        self.assertEqual(standing(PLAIN, shelf, none), none)
        self.assertEqual(coming(PLAIN, shelf, none), none)
        self.assertIsNone(fewest_wefts(PLAIN, shelf, none, BARE))
        self.assertIsNone(fewest_wefts(PLAIN, shelf, BARE, none))
        self.assertEqual(longest_standing(PLAIN, shelf, none), -1)
        self.assertEqual(idle_wefts(PLAIN, shelf, none), (0, 1))
        self.assertEqual(idle_wefts(PLAIN, shelf, BARE), (1,))
        self.assertEqual(sights(PLAIN, shelf, none), ())
        self.assertEqual(fewest_wefts(PLAIN, shelf, BARE, all_webs("ab")), 0)
        self.assertEqual(standing(PLAIN, ((),), BARE), BARE)
        self.assertEqual(sights(PLAIN, (("a",), ("b",)), BARE), ("", "a", "b"))
        self.assertEqual(longest_standing(ONE, (("a", "?-"),), lone_web("a", "aaaa")), 4)
        self.assertEqual(first_web(standing(ONE, (("a", "?-"),), lone_web("a", "a"))), "")

    def test_most(self):
        for _, book, shelf, start, goal in cases():
            for call in (lambda most: standing(book, shelf, start, most=most), lambda most: coming(book, shelf, goal, most=most)):
                many = len(call(5000))
                self.assertEqual(len(call(many)), many)
                self.assertEqual(raised(TooMany, lambda: call(many - 1)).most, many - 1)
        self.assertEqual(raised(TooMany, lambda: standing(PLAIN, (("a",),), lone_web("ab", "b" * 420))).most, 400)
        self.assertEqual(raised(TooMany, lambda: coming(PLAIN, (("a",),), lone_web("ab", "b" * 420))).most, 400)
        # Where nothing is raised for most, what is asked for is told all the same.
        self.assertIsNone(longest_standing(PLAIN, (("a",),), lone_web("ab", "b" * 420)))

    def test_sets_that_were_returned(self):
        """Great end sets that were returned are asked about again: nothing more stands or comes."""
        book = Book("abc", (("a", "a", "c"), ("a", "b", "c"), ("b", "b", ""), ("b", "c", "a"), ("c", "a", "a"), ("c", "b", ""),
                            ("c", "c", "c")))
        shelf = (("?-",), ("?b", "b"), ("b", "b", "?c"))
        for number, many in ((52, 132), (60, 106), (117, 167)):
            comes = coming(book, shelf, some_ends(seeded(number), "abc", 8))
            self.assertEqual(len(comes), many)
            self.assertEqual(coming(book, shelf, comes), comes)
            stands = standing(book, shelf, comes)
            self.assertTrue(is_closed(book, shelf, stands) and is_within(comes, stands))
            self.assertEqual(standing(book, shelf, stands), stands)
            self.assertEqual(fewest_wefts(book, shelf, stands, comes), 0)

    def test_counts(self):
        """Words that letters of two kinds make, counted."""
        stands = standing(PLAIN, (("a", "b"), ("b", "a")), BARE)
        self.assertEqual([many_webs(stands, 2 * half) for half in range(5)], [1, 2, 4, 8, 16])
        self.assertEqual([many_webs(stands, 2 * half + 1) for half in range(5)], [0] * 5)

    def test_other_letters(self):
        other = all_webs("abc")
        shelf = (("a",),)
        for call in (lambda: standing(PLAIN, shelf, other), lambda: coming(PLAIN, shelf, other),
                     lambda: fewest_wefts(PLAIN, shelf, other, BARE), lambda: fewest_wefts(PLAIN, shelf, BARE, other),
                     lambda: is_closed(PLAIN, shelf, other), lambda: longest_standing(PLAIN, shelf, other),
                     lambda: idle_wefts(PLAIN, shelf, other), lambda: sights(PLAIN, shelf, other)):
            raised(OtherLetters, call)

    def test_nothing_is_changed(self):
        random = seeded(402)
        start = some_ends(random, "abx", 8)
        before = (start.nodes, POP.folds, X.nodes)
        shelf = (("x",), ("?a", "b"))
        found = [standing(POP, shelf, start, most=5000) for _ in range(2)]
        self.assertEqual(found[0], found[1])
        self.assertEqual((start.nodes, POP.folds, X.nodes), before)


if __name__ == "__main__":
    unittest.main()
