"""[0.2]: names and order of parameters, where they are defined, and that nothing passed is changed."""

import ast
import importlib
import inspect
import pathlib
import re
import unittest

from millhands.books import Book, laid_on, led
from millhands.console import Console
from millhands.duels import Duel
from millhands.fans import Fan
from millhands.gates import Gate
from millhands.ledsets import led_from
from millhands.logs import handed, joined_logs, kept
from millhands.mills import Mill
from millhands.players import Player
from millhands.programs import Program
from millhands.readers import Reader, joined
from millhands.sheds import shed, sound_set
from millhands.tellers import Teller, both
from millhands.weavings import Weaving
from tests.support import POP, X, seeded, some_ends

# What the sections of the interface call beside their own names.
OTHERS = ("len", "str")
ROOT = pathlib.Path(__file__).resolve().parent.parent
INTERFACE = {
    "books": "Book(letters, folds) is_web(letters, thing) is_ahead(one, other) laid_on(book, web, letter) "
             "led(book, web, row)",
    "reach": "can_go(book, letter) going_row(book, letter) judge_going(book, letter) going_holds(book, letter, thing) "
             "turned_into(book, letter) built_on(book, last) can_reach(book, web, other) first_row(book, web, other) "
             "judge_reach(book, web, other) reach_holds(book, web, other, thing) settled(book, web)",
    "readers": "Reader(letters, nodes) unchanged(letters) joined(one, other) letters_read(reader) are_alike(one, other)",
    "tellers": "Teller(letters, nodes) is_end_set(thing) ends_text(ends) ends_read(text) all_webs(letters) "
               "no_webs(letters) lone_web(letters, web) ending(letters, end) both(one, other) either(one, other) "
               "but_not(one, other) is_empty(ends) is_within(one, other) first_web(ends) many_webs(ends, length) "
               "longest(ends) judge_within(one, other) within_holds(one, other, thing)",
    "ledsets": "domain(reader) alike_set(one, other) led_into(reader, ends) led_from(reader, ends, *, most=400) "
               "first_apart(one, other) judge_alike(one, other) alike_holds(one, other, thing)",
    "fans": "Fan(letters, nodes) gathered(letters, readers, *, most=400) where_made(fan) first_forked(fan) only_ones(fan)",
    "wefts": "is_item(letters, thing) is_weft(letters, thing) weft_text(weft) weft_read(letters, text) "
             "done(book, weft, web) fails_at(book, weft, web) reader_of(book, weft)",
    "passing": "passing_set(word, one, other) do_pass(word, one, other, *, ends=None) "
               "first_barred(word, one, other, *, ends=None) judge_passing(word, one, other, *, ends=None) "
               "passing_holds(word, one, other, thing, *, ends=None)",
    "items": "items_of(book) do_items_pass(book, word, item, further) barred_items(book, word) circles(book, word) "
             "do_wefts_pass(book, word, one, other)",
    "moving": "do_move(book, one, other) judge_moved(book, one, other) moved_holds(book, one, other, thing) "
              "first_form(book, weft) steps_of(book, weft) many_moved(book, weft) all_moved(book, weft)",
    "logs": "is_log(letters, thing) outcomes(log) orders(log, outcome) weft_of(log, order) handed(log, number) "
            "taken_out(log, number) kept(log, numbers) with_item(log, number, item) joined_logs(one, other)",
    "sheds": "shed(book, log, outcome, *, most=400) shed_on(book, log, outcome, web) "
             "first_order(book, log, outcome, web) is_sound(book, log, web) sound_set(book, log) "
             "first_unsound(book, log) certain_set(book, log, outcome) free_set(book, log, number)",
    "shedpapers": "judge_sound(book, log, ends) sound_holds(book, log, ends, thing) "
                  "judge_certain(book, log, outcome, ends) certain_holds(book, log, outcome, ends, thing)",
    "joinedlogs": "joined_set(book, one, other) first_barred_web(book, one, other) least_bars(book, one, other, web) "
                  "most_kept(book, one, other, web)",
    "wishes": "is_wish(letters, log, thing) items_of_wish(letters, log, wish) others_of(log, number) "
              "is_release(log, number, thing) releases_of(log, number) released(log, release) "
              "is_release_within(release, other)",
    "answers": "fit_set(book, log, number, item, some) lets_set(book, log, number, item, release) "
               "told_items(book, log, wish, web) least_releases(book, log, wish, web) status(book, log, wish, web) "
               "status_teller(book, log, wish, *, most=400) first_with(book, log, wish, word) "
               "with_set(book, log, wish, word)",
    "answerpapers": "judge_status(book, log, wish, ends) status_holds(book, log, wish, ends, thing) "
                    "row_status(letters, log, wish, row)",
    "stuck": "hangs_on(book, log, wish, web) stuck_lots(book, log, wishes, web) ways_out(book, log, wishes, web)",
    "programs": "Program(letters, deeds) run(book, program, web, *, most=2000) program_of(letters, weft)",
    "tables": "table_of(book, program) table_paper(book, program) table_holds(book, program, thing) "
              "does_stop(book, program, web) web_left(book, program, web) track(book, program, place, seen) "
              "does_climb(book, program, place, seen) program_reader(book, program) stops_where(book, program) "
              "first_endless(book, program) greatest_growth(book, program) are_programs_alike(book, one, other) "
              "first_unlike(book, one, other)",
    "jumps": "steps_made(book, program, web) after(book, program, web, t)",
    "rounds": "judge_rounds(book, weft, *, most=2000) rounds_hold(book, weft, thing) wheel(letters, weft)",
    "takingback": "is_day(book, thing) day_reader(book, day) rest_of(day, numbers) going_set(book, day, numbers) "
                  "can_lots_go(book, day, numbers, *, ends=None) going_with(book, day, number, *, ends=None) "
                  "needed_by_nobody(book, day, *, ends=None) judge_lots(book, day, numbers, *, ends=None) "
                  "lots_hold(book, day, numbers, thing, *, ends=None)",
    "opposites": "is_one_one(reader) opposite(reader) judge_one_one(reader) one_one_holds(reader, thing)",
    "undoing": "does_undo(book, reader, row, *, ends=None) undoing_row(book, reader, most, *, ends=None) "
               "judge_undoing(book, reader, most, *, ends=None) undoing_holds(book, reader, most, thing, *, ends=None) "
               "mending_row(book, day, numbers, most, *, ends=None)",
    "courses": "is_shelf(letters, thing) course_led(book, shelf, web, course) standing(book, shelf, start, *, most=400) "
               "coming(book, shelf, goal, *, most=400) fewest_wefts(book, shelf, start, goal) is_closed(book, shelf, ends) "
               "longest_standing(book, shelf, start) idle_wefts(book, shelf, start) sights(book, shelf, start)",
    "coursepapers": "judge_courses(book, shelf, start, goal, *, longest=200) "
                    "courses_hold(book, shelf, start, goal, thing) first_stuck(book, shelf, start, goal) "
                    "judge_back(book, shelf, start, goal, *, longest=200) back_holds(book, shelf, start, goal, thing)",
    "longrows": "row_reader(book, row) are_rows_alike(book, one, other) does_nothing(book, row) idle_letters(book, row) "
                "plain_row(book, row) ones(book, row) one_again(book, one, other, tail) "
                "one_again_on(book, web, one, other, tail) judge_one(book, one, other, tail) "
                "one_holds(book, one, other, tail, thing)",
    "weavings": "webs_along(book, web, row) events(book, web, row) sources(book, web, row) Weaving(book, web, row)",
    "mills": "Mill(book, web='')",
    "gates": "Gate(mill) promise_breaks(mill, promise) does_promise_hold(mill, promise) "
             "breaks_holds(mill, promise, thing)",
    "duels": "Duel(letters, turns) is_goal(letters, thing) is_at(goal, web)",
    "forcing": "forced(book, duel, goal) does_force(book, duel, goal, turn, letter, lot) "
               "does_hold_back(book, duel, goal, turn, letter, lot) winning_turns(book, duel, goal, web) "
               "does_win(book, duel, goal, web) winners(book, duel, goal) first_won(book, duel, goal) "
               "first_lost(book, duel, goal)",
    "duelpapers": "judge_duel(book, duel, goal, web) duel_holds(book, duel, goal, web, thing)",
    "players": "Player(book, duel, goal, web, hand)",
    "logtexts": "log_text(log) log_read(letters, text)",
    "findings": "finding_holds(thing)",
    "console": "Console()",
}
METHODS = {
    ("books", "Book"): "read(text) left_of(self, last, laid)",
    ("readers", "Reader"): "read(text) made(self, web) read_of(self, web) least(self) is_least(self)",
    ("tellers", "Teller"): "says(self, web) least(self) is_least(self)",
    ("fans", "Fan"): "made(self, web) least(self) is_least(self)",
    ("programs", "Program"): "read(text)",
    ("weavings", "Weaving"): "web_at(self, place) change(self, start, end, letters) undo(self)",
    ("mills", "Mill"): "begin(self) ask(self, number, deed) hand_in(self, number) take_out(self, number) drop(self, number) "
                       "status(self, number) undo(self) redo(self) tried(self, action)",
    ("gates", "Gate"): "names(self) weft(self, name) promises(self) put(self, name, weft) take_away(self, name) "
                       "put_promise(self, promise) bring(self, book)",
    ("duels", "Duel"): "read(text)",
    ("players", "Player"): "move(self) hear(self, letter) undo(self)",
    ("console", "Console"): "run(self, command)",
}
PROPERTIES = {
    ("weavings", "Weaving"): ("row_now", "web_now"),
    ("mills", "Mill"): ("book_now", "web_now", "log_now", "kept_now", "news_now"),
    ("players", "Player"): ("web_now", "turn_now", "is_over"),
}
WITHOUT_LENGTH = ("Gate", "Console")
WITH_EQUALITY = ("Book", "Reader", "Teller", "Fan", "Program", "Duel")
WITH_TEXTS = ("Book", "Reader", "Program", "Duel")


def signatures(text):
    """The names and parameters that a text of the interface lists."""
    for part in text.replace(") ", ")\n").split("\n"):
        name, parameters = part.rstrip(")").split("(")
        yield name, "(" + parameters + ")"


class Conventions(unittest.TestCase):
    def test_names_and_parameters(self):
        for stem, text in INTERFACE.items():
            module = importlib.import_module("millhands." + stem)
            tree = ast.parse((ROOT / "millhands" / (stem + ".py")).read_text())
            defined = {node.name for node in tree.body if isinstance(node, (ast.FunctionDef, ast.ClassDef))}
            for name, parameters in signatures(text):
                self.assertEqual(str(inspect.signature(getattr(module, name))), parameters, name)
                self.assertIn(name, defined)

    def test_methods_are_in_their_classes(self):
        for (stem, name), text in METHODS.items():
            kind = getattr(importlib.import_module("millhands." + stem), name)
            for method, parameters in signatures(text):
                self.assertIn(method, vars(kind))
                self.assertEqual(str(inspect.signature(getattr(kind, method))), parameters, method)
            self.assertIn("__init__", vars(kind))
            self.assertEqual("__len__" in vars(kind), name not in WITHOUT_LENGTH)
            self.assertEqual("__eq__" in vars(kind), name in WITH_EQUALITY)
            self.assertEqual("__str__" in vars(kind), name in WITH_TEXTS)
            for held in PROPERTIES.get((stem, name), ()):
                self.assertIsInstance(vars(kind)[held], property)

    def test_all_of_the_document_is_listed(self):
        """Each name that a section of the interface lists for a file is one of those that are tested here."""
        document = ROOT.parent / "shared" / "DOC.md"
        if not document.exists():
            self.skipTest("the document is not here")
        sections = re.split(r"^## millhands/(\w+)\.py$", document.read_text(), flags=re.MULTILINE)
        for stem, text in zip(sections[1::2], sections[2::2]):
            lines = text.split("\n# ")[0].split("Examples, worked out by hand")[0].split("\n")
            found = set()
            for line in lines:
                if line.startswith("- "):
                    found |= set(re.findall(r"`(\w+)\(", line)) if stem != "errors" else set()
            known = {name for name, _ in signatures(INTERFACE.get(stem, "f()"))}
            known |= {method for (where, _), text in METHODS.items() if where == stem for method, _ in signatures(text)}
            self.assertEqual({name for name in found - known if name[0].islower() and name not in OTHERS}, set(), stem)

    def test_nothing_passed_is_changed(self):
        random = seeded(100)
        ends = some_ends(random, "abx", 5)
        log = ((0, False, (), ("a",)), (1, True, (0,), ("?a",)))
        before = (str(POP), str(X), ends.nodes, log)
        for _ in range(2):
            laid_on(POP, "ab", "x")
            led(POP, "ab", "x")
            joined(X, X)
            led_from(X, ends, most=5000)
            both(ends, ends)
            handed(log, 0)
            kept(log, (0,))
            joined_logs(log, log)
            shed(POP, log, (0, 1))
            sound_set(POP, log)
            self.assertEqual((str(POP), str(X), ends.nodes, log), before)

    def test_the_same_call_returns_an_equal_result(self):
        random = seeded(101)
        for _ in range(5):
            ends = some_ends(random, "abx", 6)
            again = Teller(ends.letters, ends.nodes)
            self.assertEqual(led_from(X, ends, most=5000), led_from(Reader(X.letters, X.nodes), again, most=5000))

    def test_objects_of_unlike_classes_are_unequal(self):
        mill = Mill(Book("ab", ()))
        duel = Duel("ab", ((0, (("a", 0),)),))
        objects = [Book("ab", ()), Reader("ab", (("none",),)), Teller("ab", (("says", True),)), Fan("ab", (("stops", ()),)),
                   Program("ab", (("stop",),)), duel, Weaving(Book("ab", ()), "", ""), mill, Gate(mill), Console(),
                   Player(Book("ab", ()), duel, ("last", "a"), "", 0)]
        for one in objects:
            for other in objects:
                self.assertEqual(one == other, one is other)
