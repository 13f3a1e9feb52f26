"""[9.4], [9.5]: what letters of a row do and come from, and weavings, beside ones made anew."""

import unittest

from millhands.books import laid_on, led
from millhands.errors import BadPlace, BadRow, BadWeb, NothingToUndo
from millhands.weavings import Weaving, events, sources, webs_along
from tests.support import BOOKS, PAIRS, PLAIN, POP, TURN, WRONG, raised, seeded, some_book, some_web


def cases():
    random = seeded(430)
    for book in list(BOOKS) + [some_book(random, letters) for letters in ("a", "ab", "abc", "ab", "abc") * 6]:
        for _ in range(3):
            yield random, book, some_web(random, book.letters, 4), some_web(random, book.letters, 9)


def origins_by_hand(book, web, row):
    """The sources of each letter of the webs along a row."""
    found = [("web", at) for at in range(len(web))]
    yield list(found)
    for at, letter in enumerate(row):
        left = laid_on(book, web, letter)
        if len(left) <= len(web):
            found.pop()
        if len(left) >= len(web):
            found.append(("lay", at))
        web = left
        yield list(found)


class Rows(unittest.TestCase):
    def test_examples(self):
        self.assertEqual(events(POP, "a", "xbx"), (("goes", ("web", 0)), ("stands",), ("goes", ("lay", 1))))
        self.assertEqual(sources(TURN, "a", "ba"), (("lay", 1),))

    def test_webs_along(self):
        for _, book, web, row in cases():
            found = webs_along(book=book, web=web, row=row)
            self.assertEqual(found, tuple(led(book, web, row[:place]) for place in range(len(row) + 1)))
        self.assertEqual(webs_along(POP, "ab", ""), ("ab",))

    def test_events_and_sources(self):
        kinds = set()
        for _, book, web, row in cases():
            along = webs_along(book, web, row)
            origins = list(origins_by_hand(book, web, row))
            expected = []
            for at in range(len(row)):
                more = len(along[at + 1]) - len(along[at])
                expected.append(("stands",) if more == 1 else ("goes" if more else "turns", origins[at][-1]))
            self.assertEqual(events(book=book, web=web, row=row), tuple(expected))
            self.assertEqual(sources(book=book, web=web, row=row), tuple(origins[-1]))
            self.assertEqual(len(origins[-1]), len(along[-1]))
            kinds |= {event[0] for event in expected}
        self.assertEqual(kinds, {"stands", "turns", "goes"})
        self.assertEqual(sources(POP, "ab", ""), (("web", 0), ("web", 1)))
        self.assertEqual(events(POP, "", ""), ())

    def test_wrong_values(self):
        for thing in WRONG:
            if isinstance(thing, str) and set(thing) <= set("abx"):
                continue
            for call in (webs_along, events, sources, Weaving):
                self.assertIs(raised(BadWeb, lambda: call(POP, thing, thing)).thing, thing)
                self.assertIs(raised(BadRow, lambda: call(POP, "ab", thing)).thing, thing)


class Weavings(unittest.TestCase):
    def test_examples(self):
        weaving = Weaving(PAIRS, "", "abba")
        self.assertEqual((weaving.web_now, weaving.web_at(2)), ("", "ab"))
        self.assertEqual(weaving.change(1, 3, ""), 1)
        self.assertEqual((weaving.row_now, weaving.web_now, len(weaving)), ("aa", "", 2))

    def test_attributes(self):
        weaving = Weaving(book=POP, web="ab", row="xx")
        self.assertIs(weaving.book, POP)
        self.assertEqual((weaving.web, weaving.row_now, weaving.web_now, len(weaving)), ("ab", "xx", "", 2))
        weaving.change(start=0, end=1, letters="a")
        self.assertEqual((weaving.web, weaving.row_now, weaving.web_now), ("ab", "ax", "ab"))
        self.assertEqual(weaving.web_at(place=1), "aba")

    def check_as_made_anew(self, weaving):
        anew = webs_along(weaving.book, weaving.web, weaving.row_now)
        self.assertEqual(tuple(weaving.web_at(place) for place in range(len(weaving) + 1)), anew)
        self.assertEqual((weaving.web_now, len(weaving)), (anew[-1], len(weaving.row_now)))
        return anew

    def test_changes(self):
        many = {}
        for random, book, web, row in cases():
            weaving = Weaving(book, web, row)
            rows = []
            for _ in range(8):
                row = weaving.row_now
                before = self.check_as_made_anew(weaving)
                start = random.randint(0, len(row))
                end = random.randint(start, len(row))
                # At the ends, of nothing, and of what is there already, too.
                start, end = random.choice([(start, end), (0, end), (start, len(row)), (start, start), (0, len(row))])
                letters = random.choice([some_web(random, book.letters, 3), row[start:end], ""])
                told = weaving.change(start, end, letters)
                rows.append(row)
                self.assertEqual(weaving.row_now, row[:start] + letters + row[end:])
                after = self.check_as_made_anew(weaving)
                same = [left for left in range(len(row) - end + 1) if before[-1 - left] == after[-1 - left]]
                # If a web ahead of some letters at the end is as it was, all further ones are.
                self.assertEqual(same, list(range(len(same))))
                self.assertEqual(told, len(same) - 1)
                many[told] = many.get(told, 0) + 1
            while rows:
                self.assertIsNone(weaving.undo())
                self.assertEqual(weaving.row_now, rows.pop())
                self.check_as_made_anew(weaving)
            raised(NothingToUndo, weaving.undo)
        self.assertTrue({-1, 0, 1, 2, 3} <= set(many), many)

    def test_edges(self):
        weaving = Weaving(PAIRS, "", "")
        self.assertEqual((weaving.web_now, weaving.web_at(0), len(weaving)), ("", "", 0))
        self.assertEqual(weaving.change(0, 0, ""), 0)
        self.assertEqual(weaving.change(0, 0, "ab"), -1)
        self.assertEqual(weaving.change(0, 2, "ab"), 0)
        self.assertEqual(weaving.change(2, 2, ""), 0)
        self.assertEqual(weaving.change(0, 0, "aa"), 2)
        for row in ("ab", "ab", "ab", "", ""):
            weaving.undo()
            self.assertEqual(weaving.row_now, row)
        raised(NothingToUndo, weaving.undo)

    def test_what_was_taken_back_can_be_changed_again(self):
        weaving = Weaving(PLAIN, "b", "ab")
        weaving.change(0, 1, "bb")
        weaving.undo()
        weaving.change(1, 2, "a")
        self.assertEqual((weaving.row_now, weaving.web_now), ("aa", "baa"))
        weaving.undo()
        self.assertEqual((weaving.row_now, weaving.web_now), ("ab", "bab"))
        raised(NothingToUndo, weaving.undo)

    def test_long_rows(self):
        random = seeded(431)
        for book in BOOKS:
            letters = book.letters
            weaving = Weaving(book, letters[0] * 200, "".join(random.choice(letters) for _ in range(200)))
            for _ in range(60):
                start = random.randint(0, 200)
                end = random.randint(start, min(200, start + 5))
                weaving.change(start, end, "".join(random.choice(letters) for _ in range(end - start)))
            self.check_as_made_anew(weaving)
            before = weaving.row_now
            for letters in (book.letters[0], book.letters[0] * 7):
                self.assertEqual(raised(BadRow, lambda: weaving.change(3, 3 + len(letters) - 1, letters)).thing, letters)
            self.assertEqual(weaving.row_now, before)
            self.check_as_made_anew(weaving)
            for _ in range(60):
                weaving.undo()
            raised(NothingToUndo, weaving.undo)

    def test_wrong_changes(self):
        weaving = Weaving(POP, "ab", "xax")
        for thing in WRONG:
            if isinstance(thing, bool) or not isinstance(thing, int) or not 0 <= thing <= 3:
                self.assertIs(raised(BadPlace, lambda: weaving.web_at(thing)).place, thing)
                self.assertIs(raised(BadPlace, lambda: weaving.change(thing, thing, 1)).place, thing)
                self.assertIs(raised(BadPlace, lambda: weaving.change(1, thing, 1)).place, thing)
            if not isinstance(thing, str) or not set(thing) <= set("abx"):
                self.assertIs(raised(BadRow, lambda: weaving.change(1, 2, thing)).thing, thing)
        self.assertEqual(raised(BadPlace, lambda: weaving.change(2, 1, "a")).place, 1)
        self.assertEqual(raised(BadPlace, lambda: weaving.change(4, 5, "a")).place, 4)
        self.assertEqual(raised(BadPlace, lambda: weaving.change(3, 5, "?")).place, 5)
        self.assertEqual((weaving.row_now, weaving.web_now), ("xax", "a"))
        raised(NothingToUndo, weaving.undo)


if __name__ == "__main__":
    unittest.main()
