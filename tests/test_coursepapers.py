"""[8.2], [8.3]: papers that a goal comes or is shut out, and that all comes back or a web is stuck."""

import unittest

from millhands.courses import coming, course_led, fewest_wefts, is_closed, standing
from millhands.coursepapers import back_holds, courses_hold, first_stuck, judge_back, judge_courses
from millhands.errors import OtherLetters, TooLong
from millhands.tellers import (Teller, all_webs, both, but_not, either, ending, first_web, is_end_set, is_empty, is_within,
                               lone_web, no_webs)
from tests.support import (BOOKS, MARKS, ONE, PAIRS, PLAIN, POP, WRONG, X, altered, raised, seeded, some_book, some_ends,
                           some_shelf, some_web, webs_to)
from tests.test_courses import BARE, EATERS, EATING, some_start


def cases():
    random = seeded(410)
    for book in list(BOOKS) + [some_book(random, letters) for letters in ("a", "ab", "abc", "ab", "abc") * 6]:
        for _ in range(4):
            shelf = some_shelf(random, book.letters)
            start, goal = some_start(random, book.letters), some_start(random, book.letters)
            if random.random() < 0.4:
                start, goal = lone_web(book.letters, some_web(random, book.letters, 3)), all_webs(book.letters)
                for _ in range(2):
                    goal = but_not(goal, lone_web(book.letters, some_web(random, book.letters, 3)))
            yield random, book, shelf, start, goal


def is_shut(book, shelf, start, goal, ends):
    """As [8.2] tells it, with is_closed as it is tested beside single webs."""
    return is_closed(book, shelf, ends) and is_within(start, ends) and is_empty(both(ends, goal))


class CoursePapers(unittest.TestCase):
    def test_examples(self):
        shelf = (("?-", "a"), ("?a", "b"))
        self.assertEqual(first_stuck(PLAIN, shelf, BARE, BARE), "a")
        others = but_not(all_webs("ab"), BARE)
        self.assertEqual(judge_back(PLAIN, shelf, BARE, BARE)[:3], ("stuck", "", (0,)))
        self.assertIs(back_holds(PLAIN, shelf, BARE, BARE, ("stuck", "", (0,), others)), True)
        shelf = (("a",),)
        self.assertEqual(judge_courses(PAIRS, shelf, BARE, lone_web("ab", "b"))[0], "shut")
        two = either(BARE, lone_web("ab", "a"))
        self.assertIs(courses_hold(PAIRS, shelf, BARE, lone_web("ab", "b"), ("shut", two)), True)
        goal = lone_web("ab", "aaa")
        self.assertEqual(judge_courses(PLAIN, shelf, BARE, goal), ("comes", "", (0, 0, 0)))
        self.assertEqual(raised(TooLong, lambda: judge_courses(PLAIN, shelf, BARE, goal, longest=2)).most, 2)
        self.assertIs(back_holds(PAIRS, (("a",), ("b",)), BARE, BARE, ("back", all_webs("ab"))), True)
        self.assertEqual(judge_back(PAIRS, (("a",), ("b",)), BARE, BARE)[0], "back")

    def test_judge_courses(self):
        kinds = {}
        for _, book, shelf, start, goal in cases():
            fewest = fewest_wefts(book, shelf, start, goal)
            paper = judge_courses(book=book, shelf=shelf, start=start, goal=goal)
            kinds[paper[0]] = kinds.get(paper[0], 0) + 1
            self.assertIs(courses_hold(book=book, shelf=shelf, start=start, goal=goal, thing=paper), True)
            if paper[0] == "shut":
                self.assertIsNone(fewest)
                self.assertTrue(is_end_set(paper[1]) and is_shut(book, shelf, start, goal, paper[1]))
                self.assertEqual(judge_courses(book, shelf, start, goal, longest=0)[0], "shut")
                continue
            word, web, course = paper
            self.assertEqual((word, len(course)), ("comes", fewest))
            self.assertTrue(start.says(web) and goal.says(course_led(book, shelf, web, course)))
            self.assertEqual(judge_courses(book, shelf, start, goal, longest=fewest), paper)
            if fewest:
                error = raised(TooLong, lambda: judge_courses(book, shelf, start, goal, longest=fewest - 1))
                self.assertEqual(error.most, fewest - 1)
        self.assertGreater(min(kinds["comes"], kinds["shut"]), 30)

    def test_judge_back(self):
        kinds = {}
        for _, book, shelf, start, goal in cases():
            stands, comes = standing(book, shelf, start, most=5000), coming(book, shelf, goal, most=5000)
            web = first_web(but_not(stands, comes))
            self.assertEqual(first_stuck(book=book, shelf=shelf, start=start, goal=goal), web)
            paper = judge_back(book=book, shelf=shelf, start=start, goal=goal)
            kinds[paper[0]] = kinds.get(paper[0], 0) + 1
            self.assertIs(back_holds(book=book, shelf=shelf, start=start, goal=goal, thing=paper), True)
            if web is None:
                self.assertEqual(paper[0], "back")
                self.assertTrue(is_closed(book, shelf, paper[1]) and is_within(start, paper[1]))
                self.assertTrue(is_within(paper[1], comes))
                continue
            word, first, course, ends = paper
            fewest = fewest_wefts(book, shelf, start, lone_web(book.letters, web))
            self.assertEqual((word, len(course), course_led(book, shelf, first, course)), ("stuck", fewest, web))
            self.assertTrue(start.says(first) and ends.says(web) and is_closed(book, shelf, ends))
            self.assertTrue(is_empty(both(ends, goal)))
            if fewest:
                error = raised(TooLong, lambda: judge_back(book, shelf, start, goal, longest=fewest - 1))
                self.assertEqual(error.most, fewest - 1)
        self.assertGreater(min(kinds["back"], kinds["stuck"]), 30)

    def test_long_papers(self):
        start, bare = lone_web("abc", "c" * 20), lone_web("abc", "")
        self.assertEqual(len(judge_courses(EATING, EATERS, start, bare)[2]), 200)
        self.assertEqual(raised(TooLong, lambda: judge_courses(EATING, EATERS, start, bare, longest=199)).most, 199)
        start = lone_web("abc", "c" * 21)
        self.assertEqual(raised(TooLong, lambda: judge_courses(EATING, EATERS, start, bare)).most, 200)
        paper = judge_courses(EATING, EATERS, start, bare, longest=1000)
        self.assertEqual(len(paper[2]), 210)
        self.assertIs(courses_hold(EATING, EATERS, start, bare, paper), True)
        # The first one that is stuck is far away: the first letter never goes.
        paper = judge_back(ONE, (("?-", "a"), ("?a", "a", "?a")), lone_web("a", "a" * 60), lone_web("a", "a" * 50))
        self.assertEqual(paper[:3], ("stuck", "a" * 60, (1,) * 59))

    def test_papers_made_by_hand(self):
        """Any course that leads there, and any closed end set, is right."""
        kinds = set()
        for random, book, shelf, start, goal in cases():
            stands, comes = standing(book, shelf, start, most=5000), coming(book, shelf, goal, most=5000)
            whole = all_webs(book.letters)
            for ends in (stands, comes, but_not(whole, comes), start, goal, whole, no_webs(book.letters),
                         some_ends(random, book.letters, 8), both(but_not(whole, comes), standing(book, shelf, stands, most=5000))):
                shut = is_shut(book, shelf, start, goal, ends)
                self.assertIs(courses_hold(book, shelf, start, goal, ("shut", ends)), shut)
                back = is_closed(book, shelf, ends) and is_within(start, ends) and is_within(ends, comes)
                self.assertIs(back_holds(book, shelf, start, goal, ("back", ends)), back)
                for web in webs_to(book.letters, 2)[:4]:
                    course = tuple(random.randrange(len(shelf)) for _ in range(random.randint(0, 3)))
                    led = course_led(book, shelf, web, course)
                    goes = led is not None and start.says(web)
                    stuck = goes and is_closed(book, shelf, ends) and ends.says(led) and is_empty(both(ends, goal))
                    self.assertIs(back_holds(book, shelf, start, goal, ("stuck", web, course, ends)), stuck)
                    there = goes and goal.says(led)
                    self.assertIs(courses_hold(book, shelf, start, goal, ("comes", web, course)), there)
                    kinds |= {("shut", shut), ("back", back), ("stuck", stuck), ("comes", there)}
        self.assertEqual(len(kinds), 8)

    def test_one_kind_alone(self):
        for _, book, shelf, start, goal in cases():
            paper = judge_courses(book, shelf, start, goal)
            other = ("shut", standing(book, shelf, start, most=5000)) if paper[0] == "comes" else ("comes", "", ())
            self.assertIs(courses_hold(book, shelf, start, goal, other), False)
            paper = judge_back(book, shelf, start, goal)
            if paper[0] == "stuck":
                self.assertIs(back_holds(book, shelf, start, goal, ("back", standing(book, shelf, start, most=5000))), False)
            self.assertIs(courses_hold(book, shelf, start, goal, paper), False)
            self.assertIs(back_holds(book, shelf, start, goal, judge_courses(book, shelf, start, goal)), False)

    def test_not_least_papers(self):
        """End sets of papers need not be least ones."""
        two = Teller("ab", (("reads", True, 1, 2), ("reads", True, 2, 2), ("reads", False, 2, 3), ("says", False)))
        self.assertIs(courses_hold(PAIRS, (("a",),), BARE, lone_web("ab", "b"), ("shut", two)), True)
        whole = Teller("ab", (("reads", True, 1, 0), ("reads", True, 0, 1)))
        self.assertIs(back_holds(PAIRS, (("a",), ("b",)), BARE, BARE, ("back", whole)), True)
        self.assertIs(back_holds(PLAIN, (("a",), ("b",)), BARE, BARE, ("back", whole)), False)

    def test_edges(self):
        none, whole, shelf = no_webs("ab"), all_webs("ab"), (("a",),)
        self.assertEqual(judge_courses(PLAIN, shelf, BARE, BARE), ("comes", "", ()))
        self.assertEqual(judge_courses(PLAIN, shelf, BARE, BARE, longest=0), ("comes", "", ()))
        self.assertEqual(judge_courses(PLAIN, shelf, none, whole)[0], "shut")
        self.assertEqual(judge_back(PLAIN, shelf, none, none)[0], "back")
        self.assertIsNone(first_stuck(PLAIN, shelf, none, none))
        self.assertEqual(first_stuck(PLAIN, shelf, whole, none), "")
        for ends, right in ((none, True), (whole, False), (BARE, False)):
            self.assertIs(courses_hold(PLAIN, shelf, none, BARE, ("shut", ends)), right or ends == none)
        self.assertEqual(judge_back(PLAIN, (("?-", "?a"),), BARE, none)[:3], ("stuck", "", ()))
        self.assertEqual(judge_back(MARKS, (("m",),), lone_web("am", ""), ending("am", "m"))[0], "back")

    def test_wrong_values(self):
        shelf, goal = (("x",), ("a",)), lone_web("abx", "xa")
        start = lone_web("abx", "")
        for thing in WRONG:
            for paper in (thing, [thing], (thing, "", ()), (thing, thing, thing, thing), ("comes", "", thing, ()),
                          ("shut", thing), ("back", thing), ("comes", thing, (0, 1, thing)), ("stuck", "", (0,), thing),
                          ("stuck", "", thing, all_webs("abx"))):
                self.assertIs(courses_hold(POP, shelf, start, goal, paper), False)
                self.assertIs(back_holds(POP, shelf, start, goal, paper), False)
            self.assertIs(courses_hold(POP, shelf, start, start, ("comes", "", thing)), thing == () and thing != [])
            self.assertIs(courses_hold(POP, shelf, start, goal, ("comes", thing, (0, 1))), thing == "")
        for start, goal in ((start, goal), (start, lone_web("abx", "b"))):
            for judge, holds in ((judge_courses, courses_hold), (judge_back, back_holds)):
                paper = judge(POP, shelf, start, goal)
                for thing in altered(paper):
                    right = repr(thing) == repr(paper)
                    if paper[0] == "stuck" and isinstance(thing, tuple) and len(thing) == 4 and thing[3] is paper[3]:
                        # Other courses can lead to a web that is stuck, too.
                        right = right or repr((thing[:2], thing[2])) in (f"{(paper[:2], (0,) * many)}" for many in (1, 2, 3)
                                                                         if many > len(paper[2]))
                    self.assertIs(holds(POP, shelf, start, goal, thing), right, thing)
        for ends in (Teller("abx", (("says", "yes"),)), Teller("abx", (("says", ()),)), all_webs("ab"), X, POP):
            self.assertIs(courses_hold(POP, shelf, no_webs("abx"), goal, ("shut", ends)), False)
            self.assertIs(back_holds(POP, shelf, no_webs("abx"), goal, ("back", ends)), False)

    def test_other_letters(self):
        other, shelf = all_webs("abc"), (("a",),)
        for start, goal in ((other, BARE), (BARE, other)):
            for call in (judge_courses, first_stuck, judge_back):
                raised(OtherLetters, lambda: call(PLAIN, shelf, start, goal))
            for call in (courses_hold, back_holds):
                raised(OtherLetters, lambda: call(PLAIN, shelf, start, goal, None))
        raised(OtherLetters, lambda: judge_courses(PLAIN, shelf, other, BARE, longest=0))


if __name__ == "__main__":
    unittest.main()
