"""[12.2]: findings of every sort, beside the checkers that are named there."""

import unittest

from millhands.answerpapers import judge_status, status_holds
from millhands.coursepapers import back_holds, courses_hold, judge_back, judge_courses
from millhands.duelpapers import duel_holds, judge_duel
from millhands.duels import Duel
from millhands.findings import finding_holds
from millhands.ledsets import alike_holds, judge_alike
from millhands.logs import outcomes
from millhands.logtexts import log_text
from millhands.longrows import judge_one, one_holds
from millhands.moving import judge_moved, moved_holds
from millhands.opposites import judge_one_one, one_one_holds
from millhands.passing import judge_passing, passing_holds
from millhands.reach import going_holds, judge_going, judge_reach, reach_holds
from millhands.readers import Reader
from millhands.rounds import judge_rounds, rounds_hold
from millhands.shedpapers import certain_holds, judge_certain, judge_sound, sound_holds
from millhands.tables import table_holds, table_paper
from millhands.takingback import judge_lots, lots_hold
from millhands.tellers import Teller, all_webs, ends_text, judge_within, lone_web, within_holds
from millhands.undoing import judge_undoing, undoing_holds
from millhands.wefts import reader_of, weft_text
from tests.support import (BOOKS, PLAIN, POP, WRONG, X, altered, seeded, some_book, some_duel, some_ends, some_goal,
                           some_log, some_program, some_reader, some_shelf, some_web, some_weft)

WORDS = ("goes", "reach", "alike", "within", "passes", "moved", "sound", "certain", "status", "table", "rounds", "lots",
         "one-one", "undone", "courses", "back", "one again", "duel")


def texts(wefts):
    return tuple(weft_text(weft) for weft in wefts)


def findings(random, book):
    """For each sort of finding it without its paper, a paper that a judge tells, and the checker."""
    letters = book.letters
    letter = random.choice(letters)
    text = str(book)
    web, other = some_web(random, letters, 4), some_web(random, letters, 4)
    yield ("goes", text, letter), judge_going(book, letter), lambda thing: going_holds(book, letter, thing)
    yield ("reach", text, web, other), judge_reach(book, web, other), lambda thing: reach_holds(book, web, other, thing)
    one, two = some_reader(random, letters, 3, 2), some_reader(random, letters, 3, 2)
    two = random.choice([two, one.least()])
    yield ("alike", str(one), str(two)), judge_alike(one, two), lambda thing: alike_holds(one, two, thing)
    ends, further = some_ends(random, letters, 3), some_ends(random, letters, 3)
    further = random.choice([further, all_webs(letters)])
    yield ("within", ends_text(ends), ends_text(further)), judge_within(ends, further), \
        lambda thing: within_holds(ends, further, thing)
    word = random.choice(("forward", "ahead", "even"))
    yield ("passes", word, str(one), str(two)), judge_passing(word, one, two), \
        lambda thing: passing_holds(word, one, two, thing)
    weft = some_weft(random, letters, 4)
    moved = random.choice([weft[::-1], weft, some_weft(random, letters, 4)])
    yield ("moved", text, weft_text(weft), weft_text(moved)), judge_moved(book, weft, moved), \
        lambda thing: moved_holds(book, weft, moved, thing)
    log = some_log(random, letters, 3, 5)
    told = log_text(log)
    yield ("sound", text, told, ends_text(ends)), judge_sound(book, log, ends), lambda thing: sound_holds(book, log, ends, thing)
    laying = tuple((number, random.random() < 0.5, (), (random.choice(letters),)) for number in range(3))
    outcome = random.choice(outcomes(laying))
    yield ("certain", text, log_text(laying), outcome, ends_text(further)), judge_certain(book, laying, outcome, further), \
        lambda thing: certain_holds(book, laying, outcome, further, thing)
    still = [lot[0] for lot in log if not lot[1]]
    if still:
        wish = (random.choice(still), random.choice(letters + "?"))
        yield ("status", text, told, wish, ends_text(ends)), judge_status(book, log, wish, ends), \
            lambda thing: status_holds(book, log, wish, ends, thing)
    yield from later_findings(random, book, one, ends, further, web, other)


def later_findings(random, book, reader, ends, further, web, other):
    letters, text = book.letters, str(book)
    program = some_program(random, letters, 3)
    yield ("table", text, str(program)), table_paper(book, program), lambda thing: table_holds(book, program, thing)
    weft = some_weft(random, letters, 3)
    yield ("rounds", text, weft_text(weft)), judge_rounds(book, weft), lambda thing: rounds_hold(book, weft, thing)
    day = tuple(some_weft(random, letters, 2) for _ in range(random.randint(0, 2)))
    day = random.choice([day, ((letters[0],), ("?" + letters[0],))])
    numbers = tuple(at for at in range(len(day)) if random.random() < 0.5)
    yield ("lots", text, texts(day), numbers), judge_lots(book, day, numbers), lambda thing: lots_hold(book, day, numbers, thing)
    yield ("one-one", str(reader)), judge_one_one(reader), lambda thing: one_one_holds(reader, thing)
    most = random.randint(0, 2)
    led = random.choice([reader, reader_of(book, tuple(letters[:1]))])
    yield ("undone", text, str(led), most), judge_undoing(book, led, most), lambda thing: undoing_holds(book, led, most, thing)
    shelf = some_shelf(random, letters)
    parts = (text, texts(shelf), ends_text(ends), ends_text(further))
    yield ("courses", *parts), judge_courses(book, shelf, ends, further), \
        lambda thing: courses_hold(book, shelf, ends, further, thing)
    yield ("back", *parts), judge_back(book, shelf, ends, further), lambda thing: back_holds(book, shelf, ends, further, thing)
    tail = some_web(random, letters, 4)
    yield ("one again", text, web, other, tail), judge_one(book, web, other, tail), \
        lambda thing: one_holds(book, web, other, tail, thing)
    duel, goal = some_duel(random, letters, random.randint(1, 3)), some_goal(random, letters)
    yield ("duel", text, str(duel), goal, web), judge_duel(book, duel, goal, web), \
        lambda thing: duel_holds(book, duel, goal, web, thing)


def cases():
    random = seeded(510)
    for book in list(BOOKS) + [some_book(random, letters) for letters in ("a", "ab", "abc", "ab", "abc") * 4]:
        for finding, paper, holds in findings(random, book):
            yield random, book, finding, paper, holds


class Findings(unittest.TestCase):
    def test_examples(self):
        self.assertIs(finding_holds(("goes", str(POP), "a", ("goes", "x"))), True)
        self.assertIs(finding_holds(("goes", str(POP), "b", ("goes", "x"))), True)
        self.assertIs(finding_holds(("goes", str(PLAIN), "a", ("goes", "x"))), False)
        self.assertIs(finding_holds(thing=("rounds", str(POP), "a x", ("rounds", 0, 1))), True)

    def test_what_judges_tell(self):
        kinds = {}
        for _, _, finding, paper, _ in cases():
            self.assertIs(finding_holds((*finding, paper)), True, finding)
            kinds.setdefault(finding[0], set()).add(paper[0] if isinstance(paper[0], str) else "table")
        self.assertEqual(set(kinds), set(WORDS))
        for word in WORDS:
            self.assertTrue(len(kinds[word]) > 1 or word in ("table", "status"), (word, kinds[word]))

    def test_each_value_as_a_paper(self):
        """As a paper any value may be told: it holds just if the checker of the part says so."""
        found = {True: 0, False: 0}
        papers = [paper for _, _, _, paper, _ in list(cases())[:60]]
        for _, _, finding, paper, holds in cases():
            for thing in WRONG + tuple(papers[::7]):
                self.assertIs(finding_holds((*finding, thing)), holds(thing))
            for at, thing in enumerate(altered(paper)):
                # Rounds of unlike pairs can be right, too; of great ones nothing is promised.
                if at % 9 == 0:
                    found[holds(thing)] += 1
                    self.assertIs(finding_holds((*finding, thing)), holds(thing))
        self.assertGreater(min(found.values()), 20)

    def test_wrong_parts(self):
        """Nothing holds whose texts or values are none."""
        for random, book, finding, paper, _ in cases():
            for thing in (None, True, -1, (), [finding], str(book) + "\n", ("?",), {"a": 1}, X, POP):
                for at in range(len(finding)):
                    wrong = finding[:at] + (thing,) + finding[at + 1:]
                    if finding[0] == "lots" and at > 1 and thing == () and isinstance(thing, tuple):
                        continue
                    if finding[0] == "certain" and at == 3 and thing == () and isinstance(thing, tuple):
                        continue
                    self.assertIs(finding_holds((*wrong, paper)), False, (wrong, paper))
            for thing in (finding, (*finding, paper, paper), [*finding, paper], finding[1:] + (paper,), (*finding[:1], paper),
                          ("gone",) + finding[1:] + (paper,), (finding, paper)):
                self.assertIs(finding_holds(thing), False)

    def test_texts_with_one_thing_otherwise(self):
        many = 0
        for random, book, finding, paper, _ in cases():
            for at in range(1, len(finding)):
                if not isinstance(finding[at], str) or "\n" not in finding[at]:
                    continue
                for other in (finding[at] + "\n", finding[at] + " ", "\n" + finding[at], finding[at].replace(" ", "  ", 1),
                              finding[at].upper(), finding[at][1:], finding[at].replace("\n", ";"), finding[at] + "\nq"):
                    many += 1
                    wrong = finding[:at] + (other,) + finding[at + 1:]
                    self.assertIs(finding_holds((*wrong, paper)), False, wrong)
        self.assertGreater(many, 500)

    def test_other_letters(self):
        """All texts of a finding are over the same letters."""
        whole, none = ends_text(all_webs("ab")), ends_text(all_webs("abx"))
        log = "log\nlot 0 open - a"
        row = ("sound", ((all_webs("ab"), ((), (0,))),))
        self.assertIs(finding_holds(("sound", str(PLAIN), log, whole, row)), True)
        self.assertIs(finding_holds(("sound", str(PLAIN), log, none, row)), False)
        self.assertIs(finding_holds(("sound", str(POP), log, whole, row)), False)
        self.assertIs(finding_holds(("within", whole, whole, ("within", ((0, 0),)))), True)
        self.assertIs(finding_holds(("within", whole, none, ("within", ((0, 0),)))), False)
        unchanged = "reader ab\nstops -"
        for one, other, right in ((unchanged, unchanged, True), (unchanged, "reader abx\nstops -", False)):
            self.assertIs(finding_holds(("alike", one, other, ("alike", (("stops", ""),)))), right)
            self.assertIs(finding_holds(("passes", "even", one, other, ("passes", all_webs("ab")))), right)
        self.assertIs(finding_holds(("rounds", str(PLAIN), "x", ("rounds", 0, 1))), False)
        self.assertIs(finding_holds(("reach", str(PLAIN), "x", "", ("reach", ""))), False)
        self.assertIs(finding_holds(("goes", str(PLAIN), "x", ("stays", "x"))), False)
        self.assertIs(finding_holds(("one again", str(PLAIN), "", "", "x", ("one", 0))), False)
        duel = str(Duel("ab", ((0, (("a", 0),)),)))
        self.assertIs(finding_holds(("duel", str(PLAIN), duel, ("last", "x"), "", ("first", ()))), False)
        self.assertIs(finding_holds(("duel", str(POP), duel, ("last", "a"), "a", ("first", ((0, "a", (), 0),)))), False)
        self.assertIs(finding_holds(("duel", str(PLAIN), duel, ("last", "a"), "a", ("first", ((0, "a", (), 0),)))), True)

    def test_values_that_are_none(self):
        log = "log\nlot 0 open - a\nlot 2 done - b"
        whole = ends_text(lone_web("ab", ""))
        certain = ("certain", Reader("ab", (("stops", "b"),)))
        self.assertIs(finding_holds(("certain", str(PLAIN), log, (2,), whole, certain)), True)
        for outcome in ((), (0,), (2, 0), [2], (2, 2), ("2",), (True, 2), 2):
            self.assertIs(finding_holds(("certain", str(PLAIN), log, outcome, whole, certain)), False)
        paper = judge_status(PLAIN, ((0, False, (), ("a",)), (2, True, (), ("b",))), (0, "?"), lone_web("ab", ""))
        self.assertIs(finding_holds(("status", str(PLAIN), log, (0, "?"), whole, paper)), True)
        for wish in ((2, "?"), (1, "?"), (0, "c"), (0,), [0, "?"], (False, "?"), ("0", "?"), (0, "?a")):
            self.assertIs(finding_holds(("status", str(PLAIN), log, wish, whole, paper)), False)
        stays = ("stays", "")
        self.assertIs(finding_holds(("lots", str(PLAIN), ("a", "?a"), (0,), stays)), True)
        for numbers in ((2,), (-1,), (0, 0), [0], 0, (True,), ("0",), (1, 0)):
            self.assertIs(finding_holds(("lots", str(PLAIN), ("a", "?a"), numbers, stays)), False)
        for wefts in (["a", "?a"], (("a",), "?a"), ("a", "?c"), ("a", ""), "a ?a", ("a", "? a"), (("a",), ("?a",))):
            self.assertIs(finding_holds(("lots", str(PLAIN), wefts, (0,), stays)), False)
        # A day may have no lots, a shelf has one or more.
        self.assertIs(finding_holds(("lots", str(PLAIN), (), (), ("goes", all_webs("ab")))), True)
        self.assertIs(finding_holds(("courses", str(PLAIN), ("-",), whole, whole, ("comes", "", ()))), True)
        self.assertIs(finding_holds(("courses", str(PLAIN), (), whole, whole, ("comes", "", ()))), False)
        self.assertIs(finding_holds(("back", str(PLAIN), (), whole, whole, ("back", all_webs("ab")))), False)
        reader = str(reader_of(POP, ("a",)))
        self.assertIs(finding_holds(("undone", str(POP), reader, 1, ("undone", "x"))), True)
        for many in (0, -1, True, "1", None, (1,)):
            self.assertIs(finding_holds(("undone", str(POP), reader, many, ("undone", "x"))), False)
        for word in ("Even", "", "backward", None, ("even",)):
            self.assertIs(finding_holds(("passes", word, reader, reader, ("passes", all_webs("abx")))), False)
        for goal in (("bare", ""), "bare", ("last",), ["bare"]):
            self.assertIs(finding_holds(("duel", str(PLAIN), "duel ab\nturn 0 a 0", goal, "", ("first", ((0, "", (), 0),)))), False)

    def test_any_value(self):
        for thing in WRONG + tuple((word,) for word in WORDS) + tuple((word, None) for word in WORDS):
            self.assertIs(finding_holds(thing), False)
        for word in WORDS:
            for many in range(8):
                for thing in (None, "", (), "a", 0, str(POP), Teller("ab", (("says", True),))):
                    self.assertIs(finding_holds((word,) + (thing,) * many), False)
            self.assertIs(finding_holds([word, str(POP), "a", ("goes", "x")]), False)


if __name__ == "__main__":
    unittest.main()
