"""Promises that reach over parts: courses, rows, readers, programs, rounds and duels tell one thing."""

import unittest

from millhands.books import Book, led
from millhands.courses import coming, course_led, fewest_wefts, longest_standing, sights, standing
from millhands.duels import Duel, is_at
from millhands.forcing import does_win, first_lost, first_won, forced, winners, winning_turns
from millhands.longrows import are_rows_alike, does_nothing, one_again, plain_row, row_reader
from millhands.programs import Program, program_of
from millhands.reach import can_reach, first_row, settled
from millhands.readers import are_alike, joined
from millhands.rounds import judge_rounds, rounds_hold
from millhands.tables import are_programs_alike, does_stop, first_endless, program_reader, stops_where
from millhands.tellers import all_webs, but_not, ending, first_web, is_within, lone_web, many_webs
from millhands.undoing import does_undo
from millhands.weavings import Weaving, webs_along
from millhands.wefts import done, reader_of
from tests.support import (BOOKS, seeded, some_book, some_duel, some_ends, some_goal, some_shelf, some_web, some_weft,
                           webs_to)


def books(number, many=4):
    random = seeded(number)
    for book in list(BOOKS) + [some_book(random, letters) for letters in ("a", "ab", "abc", "ab", "abc") * many]:
        yield random, book


def lone_wefts(letters):
    """The shelf of all letters, each laid by a weft of its own: its courses are rows."""
    return tuple((letter,) for letter in letters)


def goal_set(letters, goal):
    return lone_web(letters, "") if goal[0] == "bare" else ending(letters, goal[1])


def program_of_duel(book, duel, goal):
    """The program that stops at a goal, and otherwise lays the one letter of each turn."""
    many = len(duel)
    deeds = []
    for at in range(many):
        places = tuple(2 * many if is_at(goal, seen) else many + at for seen in ("", *book.letters))
        deeds.append(("look", places))
    deeds += [("lay", moves[0][0], moves[0][1]) for _, moves in duel.turns]
    return Program(book.letters, (*deeds, ("stop",)))


class CoursesAndRows(unittest.TestCase):
    def test_courses_of_letters_are_rows(self):
        """What can stand from a web, each letter being a weft, is what the web reaches; fewest wefts are first rows."""
        reached = {True: 0, False: 0}
        for random, book in books(600):
            shelf = lone_wefts(book.letters)
            for web in [some_web(random, book.letters, 5) for _ in range(3)]:
                stands = standing(book, shelf, lone_web(book.letters, web))
                for other in webs_to(book.letters, 3):
                    row = first_row(book, web, other)
                    self.assertEqual(stands.says(other), row is not None)
                    reached[row is not None] += 1
                    comes = coming(book, shelf, lone_web(book.letters, other))
                    self.assertEqual(comes.says(web), can_reach(book, web, other))
                    if len(other) < 2:
                        fewest = fewest_wefts(book, shelf, lone_web(book.letters, web), lone_web(book.letters, other))
                        self.assertEqual(fewest, None if row is None else len(row))
                fixed = settled(book, web)
                self.assertTrue(is_within(stands, self.beginning(book.letters, web[:fixed])))
                self.assertFalse(fixed < len(web) and is_within(stands, self.beginning(book.letters, web[:fixed + 1])))
        self.assertGreater(min(reached.values()), 100)

    def beginning(self, letters, start):
        """The end set of the webs that begin with a web: all that can stand on it where letters only stand."""
        return standing(Book(letters, ()), lone_wefts(letters), lone_web(letters, start))

    def test_a_course_is_a_row_of_its_letters(self):
        for random, book in books(601):
            for _ in range(5):
                row = some_web(random, book.letters, 12)
                web = some_web(random, book.letters, 4)
                course = tuple(book.letters.index(letter) for letter in row)
                self.assertEqual(course_led(book, lone_wefts(book.letters), web, course), led(book, web, row))
                self.assertEqual(webs_along(book, web, row)[-1], led(book, web, row))


class LongRowsAndReaders(unittest.TestCase):
    def test_rows_wefts_programs(self):
        for random, book in books(610):
            for _ in range(4):
                row, other = some_web(random, book.letters, 7), some_web(random, book.letters, 7)
                reader = row_reader(book, row)
                self.assertEqual(reader, reader_of(book, tuple(row)))
                program = program_of(book.letters, tuple(row[:4]))
                self.assertEqual(program_reader(book, program), row_reader(book, row[:4]))
                alike = are_rows_alike(book, row[:4], other[:4])
                self.assertEqual(are_programs_alike(book, program, program_of(book.letters, tuple(other[:4]))), alike)
                self.assertEqual(are_rows_alike(book, row, other), are_alike(reader, row_reader(book, other)))
                self.assertTrue(are_rows_alike(book, plain_row(book, row), row))
                self.assertEqual(does_nothing(book, row + other), does_undo(book, reader, other))
                self.assertEqual(joined(reader, row_reader(book, other)), row_reader(book, row + other))
                many = one_again(book, row, other, row)
                self.assertEqual(many is None, not are_rows_alike(book, row + row, other + row))

    def test_weavings_beside_readers(self):
        for random, book in books(611):
            row, web = some_web(random, book.letters, 20), some_web(random, book.letters, 20)
            weaving = Weaving(book, web, row)
            for _ in range(5):
                start = random.randint(0, len(weaving))
                weaving.change(start, random.randint(start, len(weaving)), some_web(random, book.letters, 3))
                self.assertEqual(row_reader(book, weaving.row_now).made(web), weaving.web_now)


class RoundsAndCourses(unittest.TestCase):
    def test_rounds_of_one_weft(self):
        """What can stand by a shelf of one weft are the webs of its rounds."""
        kinds = set()
        for random, book in books(620):
            for many in (1, 2, 3, 4):
                weft = some_weft(random, book.letters, many)
                if random.random() < 0.4:
                    weft = tuple(random.choice(book.letters) for _ in weft)
                web = some_web(random, book.letters, 3)
                paper = judge_rounds(book, weft)
                self.assertIs(rounds_hold(book, weft, paper), True)
                stands = standing(book, (weft,), lone_web(book.letters, web), most=5000)
                webs = [web]
                while webs[-1] is not None and len(webs) < 40:
                    webs.append(done(book, weft, webs[-1]))
                webs = [one for one in webs if one is not None]
                self.assertTrue(all(stands.says(one) for one in webs))
                bounded = longest_standing(book, (weft,), lone_web(book.letters, web))
                kinds.add((paper[0], bounded is None))
                if paper[0] == "rounds":
                    # No more webs than rounds that are unlike, whatever the first one is.
                    self.assertLessEqual(len(set(webs)), paper[1] + paper[2])
                    self.assertEqual(bounded, max(len(one) for one in webs))
                    self.assertEqual(sum(many_webs(stands, length) for length in range(bounded + 1)), len(set(webs)))
                    self.assertEqual(sights(book, (weft,), lone_web(book.letters, web)),
                                     tuple(sorted({one[-1:] for one in webs})))
                for at, one in enumerate(webs[:6]):
                    fewest = fewest_wefts(book, (weft,), lone_web(book.letters, web), lone_web(book.letters, one))
                    self.assertEqual(fewest, webs.index(one))
        self.assertTrue({("rounds", False), ("up", True), ("up", False), ("down", False)} <= kinds, kinds)


class DuelsAndOthers(unittest.TestCase):
    def test_one_move_at_each_turn(self):
        """A duel without choices is the run of a program, whoever lays."""
        won = {True: 0, False: 0}
        for random, book in books(630):
            for many in (1, 2, 3, 4):
                duel, goal = some_duel(random, book.letters, many, 1), some_goal(random, book.letters)
                program = program_of_duel(book, duel, goal)
                self.assertEqual(winners(book, duel, goal), stops_where(book, program))
                self.assertEqual(first_lost(book, duel, goal), first_endless(book, program))
                for web in webs_to(book.letters, 3)[:25]:
                    self.assertEqual(does_win(book, duel, goal, web), does_stop(book, program, web))
                    won[does_win(book, duel, goal, web)] += 1
                # Whose hand it is changes nothing.
                other = Duel(duel.letters, tuple((1 - hand, moves) for hand, moves in duel.turns))
                self.assertEqual(winners(book, other, goal), winners(book, duel, goal))
                self.assertEqual(forced(book, other, goal), forced(book, duel, goal))
        self.assertGreater(min(won.values()), 200)

    def test_one_hand_alone(self):
        """A duel of the first hand alone that can lay all letters is won where some row leads to the goal."""
        for random, book in books(631):
            duel = Duel(book.letters, ((0, tuple((letter, 0) for letter in book.letters)),))
            shelf = lone_wefts(book.letters)
            for goal in [("bare",)] + [("last", letter) for letter in book.letters]:
                wanted = goal_set(book.letters, goal)
                won = winners(book, duel, goal)
                self.assertEqual(won, coming(book, shelf, wanted))
                self.assertEqual(first_won(book, duel, goal), first_web(won))
                for web in webs_to(book.letters, 3)[:20]:
                    self.assertEqual(does_win(book, duel, goal, web),
                                     fewest_wefts(book, shelf, lone_web(book.letters, web), wanted) is not None)
                    if goal == ("bare",):
                        self.assertEqual(does_win(book, duel, goal, web), can_reach(book, web, ""))
                # The second hand alone is kept from it only where all of its rows lead there.
                other = Duel(book.letters, ((1, duel.turns[0][1]),))
                self.assertTrue(is_within(winners(book, other, goal), won))

    def test_more_moves_help_their_hand(self):
        """Whoever gets one more move wins wherever it won."""
        for random, book in books(632, 6):
            duel, goal = some_duel(random, book.letters, 3), some_goal(random, book.letters)
            for at, (hand, moves) in enumerate(duel.turns):
                left = [letter for letter in book.letters if letter not in dict(moves)]
                if not left:
                    continue
                more = tuple(sorted([*moves, (random.choice(left), random.randrange(3))]))
                other = Duel(duel.letters, duel.turns[:at] + ((hand, more),) + duel.turns[at + 1:])
                pair = [winners(book, duel, goal), winners(book, other, goal)]
                self.assertTrue(is_within(*(pair if hand == 0 else pair[::-1])))
                for web in webs_to(book.letters, 2)[:6]:
                    one, two = [set(winning_turns(book, held, goal, web)) for held in (duel, other)]
                    self.assertTrue(one <= two if hand == 0 else two <= one)


class WebsThatStand(unittest.TestCase):
    def test_more_wefts_let_more_stand(self):
        for random, book in books(640):
            shelf = some_shelf(random, book.letters)
            start = some_ends(random, book.letters, 3)
            whole = standing(book, shelf, start, most=5000)
            for at in range(len(shelf)):
                less = shelf[:at] + shelf[at + 1:] or ((),)
                self.assertTrue(is_within(standing(book, less, start, most=5000), whole))
            # What stands from what can stand is nothing new; so with what can come.
            self.assertEqual(standing(book, shelf, whole, most=5000), whole)
            self.assertEqual(standing(book, shelf[::-1], start, most=5000), whole)
            comes = coming(book, shelf, start, most=5000)
            self.assertEqual(coming(book, shelf, comes, most=5000), comes)
            self.assertEqual(coming(book, shelf, but_not(all_webs(book.letters), whole), most=5000),
                             but_not(all_webs(book.letters), whole))


if __name__ == "__main__":
    unittest.main()
