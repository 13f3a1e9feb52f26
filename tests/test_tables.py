"""[6.2] to [6.5]: tables, their papers, tracks and readers of programs, beside runs step by step."""

import unittest

from millhands.books import Book
from millhands.errors import BadWeb, OtherLetters
from millhands.ledsets import domain, first_apart
from millhands.programs import Program, program_of, run
from millhands.readers import Reader, are_alike
from millhands.tables import (are_programs_alike, does_climb, does_stop, first_endless, first_unlike, greatest_growth,
                              program_reader, stops_where, table_holds, table_of, table_paper, track, web_left)
from millhands.tellers import all_webs, both, but_not, is_end_set, is_within
from millhands.wefts import reader_of
from tests.support import (BOOKS, PAIRS, PLAIN, POP, WRONG, altered, raised, seeded, some_book, some_program, some_web,
                           some_weft, steps_by_hand, webs_to)
from tests.test_programs import DRAIN, GROW

DRAINED = ((0, "", ("stops", "")), (0, "a", ("beneath", 0)), (0, "b", ("beneath", 0)), (0, "x", ("stops", "x")),
           (1, "", ("stops", "")), (1, "a", ("stops", "a")), (1, "b", ("stops", "b")), (1, "x", ("stops", "x")),
           (2, "", ("stops", "x")), (2, "a", ("beneath", 0)), (2, "b", ("beneath", 0)), (2, "x", ("stops", "xx")))
RANKS = (1, 1, 1, 1, 0, 0, 0, 0, 2, 0, 0, 2)
ENOUGH = 500


def cases(many=1):
    random = seeded(310)
    yield POP, DRAIN
    yield POP, GROW
    for book in list(BOOKS) + [some_book(random, letters) for letters in ("a", "ab", "abc") * 10 * many]:
        for _ in range(2):
            yield book, some_program(random, book.letters, random.randint(1, 6))


def begun_at(program, place):
    """The program that begins at another place: both places are exchanged."""
    turn = {0: place, place: 0}
    deeds = [program.deeds[turn.get(at, at)] for at in range(len(program))]
    fresh = []
    for deed in deeds:
        if deed[0] == "lay":
            deed = ("lay", deed[1], turn.get(deed[2], deed[2]))
        elif deed[0] == "look":
            deed = ("look", tuple(turn.get(to, to) for to in deed[1]))
        fresh.append(deed)
    return Program(program.letters, tuple(fresh)), turn


def what_by_hand(book, program, place, seen, beneath):
    """What comes of a row, on a web that has some letters beneath what is seen."""
    begun, turn = begun_at(program, place)
    web = beneath + seen
    for at, now, item in steps_by_hand(book, begun, web, ENOUGH):
        if seen and len(now) <= len(beneath):
            return ("beneath", turn.get(at, at))
        if item is None:
            return ("stops", now[len(beneath):])
    return ("ever",)


class Tables(unittest.TestCase):
    def test_examples(self):
        self.assertEqual(table_of(POP, DRAIN), DRAINED)
        paper = tuple((*row, rank) for row, rank in zip(DRAINED, RANKS))
        self.assertIs(table_holds(POP, DRAIN, paper), True)
        self.assertEqual(program_reader(POP, DRAIN), Reader("abx", (("reads", "", 0, 0, 1), ("stops", "x"))))
        self.assertEqual(stops_where(POP, DRAIN), all_webs("abx"))
        self.assertEqual(greatest_growth(POP, DRAIN), 0)
        self.assertIsNone(greatest_growth(POP, GROW))
        self.assertEqual(first_endless(POP, GROW), "")
        self.assertIsNone(first_endless(POP, DRAIN))
        self.assertEqual(track(POP, GROW, 0, "b"), (((0, "b"), (0, "a")), 1))
        self.assertTrue(does_climb(POP, GROW, 0, "b"))

    def test_rows_beside_runs(self):
        kinds = set()
        for book, program in cases():
            table = table_of(book=book, program=program)
            self.assertEqual([row[:2] for row in table], [(place, seen) for place in range(len(program))
                                                          for seen in ("", *book.letters)])
            for place, seen, what in table:
                kinds.add((what[0], seen == ""))
                for beneath in ("", book.letters[-1] * 2) if seen else ("",):
                    self.assertEqual(what, what_by_hand(book, program, place, seen, beneath))
                if what[0] == "stops":
                    self.assertLessEqual(len(what[1]), len(program) * len(book))
        self.assertEqual(kinds, {(word, bare) for word in ("beneath", "stops", "ever") for bare in (True, False)}
                         - {("beneath", True)})

    def test_papers(self):
        for book, program in cases():
            paper = table_paper(book=book, program=program)
            self.assertEqual(tuple(row[:3] for row in paper), table_of(book, program))
            self.assertIs(table_holds(book=book, program=program, thing=paper), True)
            # Ranks can all be greater, with gaps between them.
            far = tuple((*row[:3], row[3] if row[3] < 0 else row[3] * 7 + 10 ** 30) for row in paper)
            self.assertIs(table_holds(book, program, far), True)
            flat = tuple((*row[:3], min(row[3], 0)) for row in paper)
            goes_by = any(deed[0] == "look" and what[0] != "ever" for deed, what in
                          ((program.deeds[row[0]], row[2]) for row in paper))
            if goes_by:
                self.assertIs(table_holds(book, program, flat), False)

    def test_ranks_of_each_row(self):
        """A rank has to be above those of the rows that are gone by: at a lay that stands of both."""
        up = Program("ab", (("lay", "a", 1), ("look", (2, 3, 3)), ("stop",), ("lay", "a", 2)))
        table = {row[:2]: row[2] for row in table_of(PAIRS, up)}
        self.assertEqual(table[(0, "b")], ("stops", "b"))
        paper = {row[:2]: row for row in table_paper(PAIRS, up)}
        for key, goes_by in (((0, "b"), ((1, "a"), (2, "b"))), ((1, "a"), ((3, "a"),)), ((3, "b"), ((2, "a"),)),
                             ((0, ""), ((1, "a"), (2, "")))):
            for lower in goes_by:
                for rank, wanted in ((paper[lower][3], False), (paper[lower][3] - 1, False)):
                    other = dict(paper)
                    other[key] = (*paper[key][:3], rank)
                    self.assertIs(table_holds(PAIRS, up, tuple(other.values())), wanted, (key, lower))

    def test_wrong_papers(self):
        paper = tuple((*row, rank) for row, rank in zip(DRAINED, RANKS))
        for thing in WRONG:
            self.assertIs(table_holds(POP, DRAIN, thing), False)
            self.assertIs(table_holds(POP, DRAIN, paper[:3] + (thing,) + paper[4:]), False)
        for other in (DRAINED, paper[1:], paper[:-1], paper[::-1], paper + paper[-1:], list(paper)):
            self.assertIs(table_holds(POP, DRAIN, other), False)
        small = Program("ab", (("look", (1, 0, 1)), ("lay", "a", 0)))
        paper = table_paper(PLAIN, small)
        words = {row[2][0] for row in paper}
        self.assertEqual(words, {"ever"})
        two = Program("a", (("look", (1, 0)), ("stop",)))
        for book, program in ((PLAIN, small), (Book("a", ()), two), (Book("a", (("a", "a", ""),)), two)):
            paper = table_paper(book, program)
            for thing in altered(paper):
                told = table_holds(book, program, thing)
                self.assertIs(told, self.is_right(book, program, thing), thing)

    def is_right(self, book, program, thing):
        """Whether a paper with one thing otherwise is right: then it can only be a rank of a row of looks or stops."""
        table = table_of(book, program)
        if not isinstance(thing, tuple) or len(thing) != len(table):
            return False
        ranks = {}
        for row, told in zip(table, thing):
            if not isinstance(told, tuple) or len(told) != 4 or repr(told[:3]) != repr(row):
                return False
            if not isinstance(told[3], int) or isinstance(told[3], bool):
                return False
            ranks[row[:2]] = told[3]
        for place, seen, what in table:
            deed = program.deeds[place]
            if what == ("ever",):
                if ranks[(place, seen)] != -1:
                    return False
            elif ranks[(place, seen)] < 0:
                return False
            elif deed[0] == "look":
                to = deed[1][1 + book.letters.index(seen) if seen else 0]
                if ranks[(to, seen)] >= ranks[(place, seen)]:
                    return False
        return True

    def test_webs_beside_runs(self):
        random = seeded(311)
        kinds = set()
        for book, program in cases(2):
            reader = program_reader(book=book, program=program)
            self.assertTrue(reader.is_least())
            stops = stops_where(book=book, program=program)
            self.assertTrue(is_end_set(stops) and stops.is_least())
            self.assertEqual(stops, domain(reader))
            endless = []
            growth = []
            for web in webs_to(book.letters, 3) + [some_web(random, book.letters, 60)]:
                last = list(steps_by_hand(book, program, web, ENOUGH))[-1]
                left = last[1] if last[2] is None else None
                kinds.add(left is None)
                self.assertEqual(web_left(book=book, program=program, web=web), left)
                self.assertIs(does_stop(book=book, program=program, web=web), left is not None)
                self.assertEqual(reader.made(web), left)
                self.assertIs(stops.says(web), left is not None)
                endless += [web] if left is None else []
                growth += [] if left is None else [len(left) - len(web)]
            first = first_endless(book=book, program=program)
            self.assertTrue(first == endless[0] if endless and len(endless[0]) < 4 else first is None or len(first) > 3)
            greatest = greatest_growth(book=book, program=program)
            if greatest is None:
                self.assertEqual(growth, [])
            else:
                self.assertTrue(all(grown <= greatest for grown in growth))
                # Some web of which few letters are read grows so much.
                webs = webs_to(book.letters, 6 if len(book) < 3 else 5)
                lefts = [(web, reader.made(web)) for web in webs]
                self.assertEqual(greatest, max(len(left) - len(web) for web, left in lefts if left is not None))
        self.assertEqual(kinds, {True, False})

    def test_tracks(self):
        climbing = set()
        for book, program in cases():
            for place, seen, what in table_of(book, program):
                found = track(book=book, program=program, place=place, seen=seen)
                climbs = does_climb(book=book, program=program, place=place, seen=seen)
                if what != ("ever",):
                    self.assertIsNone(found)
                    self.assertIs(climbs, False)
                    continue
                climbing.add(climbs)
                spots, index = found
                self.assertEqual((spots[0], len(set(spots))), ((place, seen), len(spots)))
                self.assertTrue(0 <= index < len(spots))
                self.check_spots(book, program, place, seen, spots, index, climbs)
        self.assertEqual(climbing, {True, False})

    def check_spots(self, book, program, place, seen, spots, index, climbs):
        """The spots beside a run: a row each time at which the web is never again as short as it was then."""
        begun, turn = begun_at(program, place)
        way = [(turn.get(at, at), web[-1:], len(web)) for at, web, _ in steps_by_hand(book, begun, seen, ENOUGH)]
        low = len(way) - 1
        least = []
        for step in reversed(range(len(way))):
            if way[step][2] <= way[low][2]:
                low = step
                least.append(way[step])
        least = least[::-1]
        round_of = [*spots, *spots[index:] * 4]
        many = min(len(round_of), len(least) // 2)
        self.assertEqual([row[:2] for row in least[:many]], round_of[:many])
        high = [row[2] for row in least[:many]]
        if many == len(round_of):
            self.assertIs(climbs, high[-1] > high[len(spots) - 1])

    def test_alike(self):
        kinds = set()
        random = seeded(312)
        for book, program in cases():
            other = some_program(random, book.letters, 3)
            for further in (other, program, begun_at(program, 0)[0]):
                alike = are_programs_alike(book=book, one=program, other=further)
                kinds.add(alike)
                self.assertIs(alike, are_alike(program_reader(book, program), program_reader(book, further)))
                first = first_unlike(book=book, one=program, other=further)
                self.assertEqual(first, first_apart(program_reader(book, program), program_reader(book, further)))
                self.assertIs(first is None, alike)
                if first is not None:
                    self.assertNotEqual(web_left(book, program, first), web_left(book, further, first))
                unlike = [web for web in webs_to(book.letters, 3)
                          if web_left(book, program, web) != web_left(book, further, web)]
                self.assertTrue(first == unlike[0] if unlike else first is None or len(first) > 3)
        self.assertEqual(kinds, {True, False})

    def test_programs_of_wefts(self):
        """Whatever a weft makes its program makes, by the table, the reader, and step by step."""
        random = seeded(313)
        for book in list(BOOKS) + [some_book(random, letters) for letters in ("a", "ab", "abc", "abc")]:
            for weft in [()] + [some_weft(random, book.letters, 8) for _ in range(4)]:
                program = program_of(book.letters, weft)
                reader = reader_of(book, weft)
                self.assertEqual(program_reader(book, program), reader)
                self.assertEqual(stops_where(book, program), domain(reader))
                for web in webs_to(book.letters, 2):
                    self.assertEqual(web_left(book, program, web), reader.made(web))
                    if reader.made(web) is not None:
                        self.assertEqual(run(book, program, web), (weft, reader.made(web)))

    def test_wrong_webs_and_letters(self):
        for thing in ("c", None, ("a",), 0, True, ["a"], POP):
            for call in (does_stop, web_left):
                self.assertIs(raised(BadWeb, lambda: call(POP, DRAIN, thing)).thing, thing)
                raised(OtherLetters, lambda: call(PAIRS, DRAIN, thing))
        other = Program("ab", (("stop",),))
        for call in (table_of, table_paper, program_reader, stops_where, first_endless, greatest_growth,
                     lambda *two: table_holds(*two, 0), lambda *two: track(*two, 0, "a"),
                     lambda *two: does_climb(*two, 0, "a"), lambda *two: are_programs_alike(*two, DRAIN),
                     lambda *two: first_unlike(*two, DRAIN)):
            raised(OtherLetters, lambda: call(POP, other))
        raised(OtherLetters, lambda: are_programs_alike(POP, DRAIN, other))
        raised(OtherLetters, lambda: first_unlike(PAIRS, other, DRAIN))

    def test_sets_of_endless_programs(self):
        for book, program in cases():
            stops = stops_where(book, program)
            first = first_endless(book, program)
            self.assertIs(first is None, is_within(all_webs(book.letters), stops))
            if greatest_growth(book, program) is None:
                self.assertFalse(any(both(stops, stops).nodes[0][1:2]))
                self.assertEqual(but_not(all_webs(book.letters), stops), all_webs(book.letters))


if __name__ == "__main__":
    unittest.main()
