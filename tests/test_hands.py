"""Promises that reach over parts 2 to 5: what others do takes nothing away, and letters that pass forward."""

import unittest

from millhands.answers import status, told_items
from millhands.fans import gathered
from millhands.items import do_items_pass
from millhands.logs import handed, orders, outcomes, taken_out, weft_of, with_item
from millhands.sheds import certain_set, is_sound, shed, sound_set
from millhands.tellers import all_webs, is_within
from millhands.wefts import reader_of
from tests.support import BOOKS, Book, seeded, some_book, some_log, some_web, told_log, webs_to


def cases():
    random = seeded(260)
    for book in list(BOOKS) + [some_book(random, letters) for letters in ("a", "ab", "abc", "ab", "abc")]:
        for lots in (1, 2, 3, 4):
            web = some_web(random, book.letters, 3)
            yield book, told_log(random, book, web, lots, 5, 3), web


def still_open(log):
    return [lot[0] for lot in log if not lot[1]]


class Hands(unittest.TestCase):
    def test_what_can_be_told_stays_so(self):
        """Telling an item, handing in and taking out keep the log sound, and others' items that can be told."""
        for book, log, web in cases():
            self.assertTrue(is_sound(book, log, web))
            for number in still_open(log):
                for deed in book.letters + "?":
                    told = told_items(book, log, (number, deed), web)
                    for item in told:
                        self.assertTrue(is_sound(book, with_item(log, number, item), web))
                    for other in still_open(log):
                        for further in (handed(log, other), taken_out(log, other)):
                            self.assertTrue(is_sound(book, further, web))
                            if other != number:
                                left = told_items(book, further, (number, deed), web)
                                self.assertTrue(set(told) <= set(left))

    def test_what_is_told_holds_on_each_web_of_the_end(self):
        for book, log, _ in cases():
            sound = sound_set(book, log)
            for number in still_open(log):
                self.assertTrue(is_within(sound, sound_set(book, handed(log, number))))
                self.assertTrue(is_within(sound, sound_set(book, taken_out(log, number))))

    def test_letters_that_pass_forward_can_be_told(self):
        many = 0
        random = seeded(261)
        books = [Book("abx", (("a", "x", "x"), ("b", "x", "x"), ("x", "x", "x"))), Book("ab", (("a", "a", ""),)),
                 Book("a", (("a", "a", ""),)), Book("a", ()), Book("am", (("m", "m", "m"),)), Book("a", (("a", "a", "a"),))]
        for book in books + [some_book(random, "ab") for _ in range(20)]:
            passing = [letter for letter in book.letters if do_items_pass(book, "forward", letter, letter)]
            for lots in (2, 3, 4):
                for log in (some_log(random, book.letters, lots, 6), told_log(random, book, "", lots, 5, 3)):
                    for number in still_open(log):
                        others = [item for lot in log if lot[0] != number for item in lot[3]]
                        for letter in passing:
                            if all(do_items_pass(book, "forward", letter, item) for item in others):
                                many += len(others)
                                for web in webs_to(book.letters, 2):
                                    if is_sound(book, log, web):
                                        self.assertEqual(status(book, log, (number, letter), web), ("told", letter))
        self.assertGreater(many, 100)

    def test_letters_that_pass_forward_are_certain(self):
        many = 0
        random = seeded(262)
        for book in list(BOOKS) + [Book("a", ()), Book("ab", (("a", "a", "a"), ("a", "b", "a"), ("b", "a", "a"), ("b", "b", "a")))]:
            for lots in (2, 3, 4):
                log = some_log(random, book.letters, lots, 6)
                pairs = [(item, further) for one in log for other in log if one != other
                         for item in one[3] for further in other[3]]
                if all(do_items_pass(book, "forward", item, further) for item, further in pairs):
                    many += len(pairs)
                    for outcome in outcomes(log):
                        self.assertEqual(certain_set(book, log, outcome), all_webs(book.letters))
        self.assertGreater(many, 0)

    def test_a_shed_gathers_what_its_orders_leave(self):
        for book, log, _ in cases():
            for outcome in outcomes(log):
                readers = tuple(reader_of(book, weft_of(log, order)) for order in orders(log, outcome))
                self.assertEqual(shed(book, log, outcome), gathered(book.letters, readers))


if __name__ == "__main__":
    unittest.main()
