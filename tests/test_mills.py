"""[10.1] to [10.3], [10.6]: mills, beside one that is kept by hand."""

import copy
import unittest

from millhands.answers import status, told_items
from millhands.books import Book
from millhands.errors import BadDeed, BadWeb, Full, NoHand, NothingToRedo, NothingToUndo, NoWish, Waits
from millhands.gates import Gate
from millhands.mills import Mill
from millhands.sheds import first_order, is_sound, shed_on
from tests.handmill import HandMill
from tests.support import BOOKS, PLAIN, POP, WRONG, raised, seeded, some_book, some_web


def told_of(mill):
    return (mill.book_now, mill.web_now, mill.log_now, mill.kept_now, mill.news_now)


def deed_of(random, hand):
    """Any deed that is let now, as a name and arguments."""
    numbers = hand.open_hands()
    free = [number for number in numbers if number not in hand.waiting()]
    kinds = ["begin"] if len(hand.log_now) < 4 and len(numbers) < 3 else []
    kinds += ["ask"] * 8 + ["hand_in"] if free else []
    kinds += ["take_out"] if numbers and random.random() < 0.4 else []
    kinds += ["drop"] if hand.kept_now and random.random() < 0.3 else []
    kind = random.choice(kinds or ["take_out"])
    if kind == "begin":
        return kind, ()
    if kind == "ask":
        return kind, (random.choice(free), random.choice(hand.book_now.letters + "??"))
    return kind, (random.choice(free if kind == "hand_in" else hand.waiting() if kind == "drop" else numbers),)


def books():
    random = seeded(440)
    for book in list(BOOKS) + [some_book(random, letters) for letters in ("a", "ab", "abc", "ab", "abc", "ab") * 2]:
        yield random, book


class Mills(unittest.TestCase):
    def test_examples(self):
        mill = Mill(POP, "a")
        self.assertEqual((mill.begin(), mill.begin()), (0, 1))
        self.assertEqual(mill.ask(1, "?"), ("told", "?a"))
        self.assertEqual(mill.ask(1, "b"), ("told", "b"))
        self.assertEqual(mill.ask(0, "x"), ("told", "x"))
        self.assertEqual(mill.ask(0, "?"), ("waits", (((), (1,)), ((1,), ()))))
        self.assertEqual(raised(Waits, lambda: mill.hand_in(0)).number, 0)

        def other_way(held):
            self.assertEqual(held.take_out(1), ((0, "?-"),))
            self.assertEqual(held.hand_in(0), ())
            return held.web_now

        self.assertEqual(mill.tried(other_way), "")
        self.assertEqual(mill.hand_in(1), ((0, "?a"),))
        self.assertEqual(mill.hand_in(0), ())
        self.assertEqual((mill.web_now, mill.log_now), ("a", ()))

    def test_a_new_mill(self):
        mill = Mill(book=POP, web="xa")
        self.assertIs(mill.book_now, POP)
        self.assertEqual(told_of(mill)[1:], ("xa", (), (), ()))
        self.assertEqual((len(mill), Mill(PLAIN).web_now), (0, ""))
        raised(NothingToUndo, mill.undo)
        raised(NothingToRedo, mill.redo)
        for thing in WRONG:
            if not isinstance(thing, str) or not set(thing) <= set("abx"):
                self.assertIs(raised(BadWeb, lambda: Mill(POP, thing)).thing, thing)

    def test_beside_a_mill_kept_by_hand(self):
        """All that a mill tells, and that its log is sound, at every moment; also behind what was taken back."""
        kinds = {}
        for random, book in books():
            for _ in range(6):
                web = some_web(random, book.letters, 3)
                mill, hand = Mill(book, web), HandMill(book, web)
                moments, at = [copy.copy(hand)], 0
                for _ in range(40):
                    if random.random() < 0.15 and at:
                        self.assertIsNone(mill.undo())
                        at -= 1
                        hand = copy.copy(moments[at])
                    elif random.random() < 0.15 and at + 1 < len(moments):
                        self.assertIsNone(mill.redo())
                        at += 1
                        hand = copy.copy(moments[at])
                    else:
                        word, parts = deed_of(random, hand)
                        full = hand.is_full(parts[1]) if word == "ask" else None
                        if full:
                            self.assertEqual(raised(Full, lambda: mill.ask(*parts)).part, full)
                        else:
                            found = getattr(hand, word)(*parts)
                            self.assertEqual(getattr(mill, word)(*parts), found)
                            if word != "ask" or found != ("never",):
                                moments, at = moments[:at + 1] + [copy.copy(hand)], at + 1
                            kinds[found[0] if word == "ask" else word] = True
                            kinds["news"] = kinds.get("news", False) or (word in ("hand_in", "take_out") and found != ())
                    self.assertEqual(told_of(mill), hand.told())
                    self.assertTrue(is_sound(book, mill.log_now, mill.web_now))
                    self.assertEqual(len(mill), len(hand.open_hands()))
                    for number in hand.open_hands():
                        self.assertEqual(mill.status(number), hand.status(number))
        self.assertEqual(set(kinds), {"begin", "told", "waits", "never", "hand_in", "take_out", "drop", "news"})
        self.assertTrue(kinds["news"])

    def test_beside_parts_4_and_5(self):
        """What is asked is what status tells, what is reckoned in is what the first order leaves."""
        for random, book in books():
            mill = Mill(book, some_web(random, book.letters, 3))
            hand = HandMill(book, mill.web_now)
            for _ in range(20):
                word, parts = deed_of(random, hand)
                if word == "ask" and hand.is_full(parts[1]):
                    continue
                log, web, waiting = mill.log_now, mill.web_now, mill.kept_now
                found = getattr(mill, word)(*parts)
                getattr(hand, word)(*parts)
                if word == "ask":
                    self.assertEqual(found, status(book, log, parts, web))
                    self.assertEqual(found[0] == "told", told_items(book, log, parts, web) != ())
                if word in ("hand_in", "take_out") and not len(mill):
                    rest = tuple((lot[0], True) + lot[2:] for lot in log if word == "hand_in" or lot[0] != parts[0])
                    outcome = tuple(lot[0] for lot in rest)
                    left = shed_on(book, rest, outcome, web)
                    self.assertIn(mill.web_now, left)
                    self.assertIsNotNone(first_order(book, rest, outcome, web))
                    self.assertEqual((mill.log_now, mill.kept_now), ((), ()))
                for number, _ in waiting:
                    if number in [lot[0] for lot in mill.log_now] and number in dict(mill.kept_now):
                        wish = (number, dict(mill.kept_now)[number])
                        self.assertEqual(mill.status(number), status(book, mill.log_now, wish, mill.web_now))

    def test_numbers_and_earlier_ones(self):
        mill = Mill(PLAIN)
        self.assertEqual([mill.begin() for _ in range(3)], [0, 1, 2])
        mill.hand_in(0)
        self.assertEqual(mill.begin(), 3)
        self.assertEqual(mill.log_now, ((0, True, (), ()), (1, False, (), ()), (2, False, (), ()), (3, False, (0,), ())))
        self.assertEqual(raised(Full, mill.begin).part, "lots")
        mill.take_out(1)
        mill.take_out(2)
        self.assertEqual(mill.begin(), 4)
        mill.take_out(4)
        mill.undo()
        mill.undo()
        # A hand whose beginning is taken back has no number any more.
        self.assertEqual(raised(NoHand, lambda: mill.ask(4, "?")).number, 4)
        self.assertEqual(mill.begin(), 4)
        mill.take_out(4)
        self.assertEqual(mill.begin(), 5)
        mill.take_out(3)
        mill.take_out(5)
        self.assertEqual((mill.log_now, mill.begin()), ((), 6))

    def test_full_lots(self):
        mill = Mill(PLAIN)
        for _ in range(3):
            mill.begin()
        self.assertEqual(raised(Full, mill.begin).part, "open")
        mill.hand_in(1)
        mill.begin()
        self.assertEqual(raised(Full, mill.begin).part, "lots")
        self.assertEqual(len(mill), 3)

    def test_full_items(self):
        mill = Mill(PLAIN)
        mill.begin()
        for _ in range(5):
            mill.ask(0, "a")
        self.assertEqual(raised(Full, lambda: mill.ask(0, "b")).part, "lays")
        for _ in range(3):
            self.assertEqual(mill.ask(0, "?"), ("told", "?a"))
        for deed in "b?":
            self.assertEqual(raised(Full, lambda: mill.ask(0, deed)).part, "items")
        mill.hand_in(0)
        self.assertEqual((mill.web_now, mill.begin()), ("aaaaa", 1))
        self.assertEqual(mill.ask(1, "b"), ("told", "b"))
        # Four letters alone over three.
        mill = Mill(POP)
        mill.begin()
        for _ in range(4):
            mill.ask(0, "a")
        self.assertEqual(raised(Full, lambda: mill.ask(0, "x")).part, "lays")
        self.assertEqual(mill.ask(0, "?"), ("told", "?a"))

    def crossed(self):
        """The hand 1 saw a bare web and laid a, the hand 0 saw a bare web, too: it was ahead, and may lay nothing."""
        mill = Mill(PLAIN)
        self.assertEqual((mill.begin(), mill.begin()), (0, 1))
        for number, deed, item in ((1, "?", "?-"), (1, "a", "a"), (0, "?", "?-")):
            self.assertEqual(mill.ask(number, deed), ("told", item))
        return mill

    def test_kept_wishes(self):
        mill = self.crossed()
        self.assertIsNone(mill.status(0))
        self.assertEqual(mill.ask(0, "a"), ("waits", (((), (1,)),)))
        self.assertEqual((mill.kept_now, mill.status(0)), (((0, "a"),), ("waits", (((), (1,)),))))
        self.assertEqual(mill.news_now, ((1, "?-"), (1, "a"), (0, "?-")))
        for call in (lambda: mill.ask(0, "b"), lambda: mill.ask(0, None), lambda: mill.hand_in(0)):
            self.assertEqual(raised(Waits, call).number, 0)
        self.assertEqual(mill.tried(lambda held: held.take_out(1)), ((0, "a"),))
        # Handed in, the hand 1 leaves the wish without any way to be told; it is kept all the same.
        self.assertEqual(mill.hand_in(1), ())
        self.assertEqual((mill.kept_now, mill.status(0)), (((0, "a"),), ("never",)))
        self.assertEqual(raised(Waits, lambda: mill.hand_in(0)).number, 0)
        self.assertIsNone(mill.drop(0))
        self.assertEqual((mill.kept_now, mill.status(0)), ((), None))
        self.assertEqual(raised(NoWish, lambda: mill.drop(0)).number, 0)
        self.assertEqual(mill.hand_in(0), ())
        self.assertEqual(mill.web_now, "a")

    def test_a_hand_with_a_kept_wish_can_be_taken_out(self):
        mill = self.crossed()
        mill.ask(0, "a")
        self.assertEqual(mill.take_out(0), ())
        self.assertEqual((mill.kept_now, mill.log_now), ((), ((1, False, (), ("?-", "a")),)))
        self.assertEqual(mill.hand_in(1), ())
        self.assertEqual(mill.web_now, "a")

    def test_kept_wishes_count(self):
        mill = self.crossed()
        mill.ask(0, "a")
        for _ in range(3):
            self.assertEqual(mill.ask(1, "a"), ("told", "a"))
        # Four letters are laid, one is kept.
        self.assertEqual(raised(Full, lambda: mill.ask(1, "b")).part, "lays")
        self.assertEqual(mill.ask(1, "?"), ("told", "?a"))
        for deed in "b?":
            self.assertEqual(raised(Full, lambda: mill.ask(1, deed)).part, "items")
        mill.drop(0)
        self.assertEqual(raised(Full, lambda: mill.tried(lambda held: (held.ask(1, "b"), held.ask(1, "b")))).part, "items")
        self.assertEqual(mill.ask(1, "b"), ("told", "b"))

    def test_never_changes_nothing(self):
        mill = self.crossed()
        mill.hand_in(1)
        mill.begin()
        mill.undo()
        before = told_of(mill)
        for deed in "ab":
            self.assertEqual(mill.ask(0, deed), ("never",))
        self.assertEqual((told_of(mill), mill.status(0)), (before, None))
        # It is no deed: what was taken back can still be made again.
        mill.redo()
        self.assertEqual(len(mill), 2)
        mill.undo()
        mill.undo()
        self.assertEqual(mill.log_now[1], (1, False, (), ("?-", "a")))

    def test_news_one_behind_the_other(self):
        """All kept wishes are looked at again, from the first one on, as soon as one was told."""
        mill = Mill(PLAIN)
        for _ in range(3):
            mill.begin()
        self.assertEqual(mill.ask(0, "?"), ("told", "?-"))
        self.assertEqual(mill.ask(0, "a"), ("told", "a"))
        self.assertEqual(mill.ask(1, "?"), ("told", "?-"))
        self.assertEqual(mill.ask(2, "?"), ("told", "?-"))
        self.assertEqual((mill.ask(2, "b")[0], mill.ask(1, "b")[0]), ("waits", "waits"))
        self.assertEqual(mill.kept_now, ((2, "b"), (1, "b")))
        self.assertEqual(mill.take_out(0), ((2, "b"),))
        self.assertEqual((mill.kept_now, mill.status(1)), (((1, "b"),), ("waits", (((), (2,)),))))
        self.assertEqual(mill.take_out(2), ((1, "b"),))
        self.assertEqual(mill.news_now[4:], ((2, "b"), (1, "b")))

    def test_undo_and_redo(self):
        mill = self.crossed()
        moments = [told_of(mill)]
        for deed in (lambda: mill.ask(0, "b"), lambda: mill.drop(0), lambda: mill.ask(0, "a"), lambda: mill.take_out(1),
                     lambda: mill.hand_in(0), mill.begin):
            deed()
            moments.append(told_of(mill))
        self.assertEqual((mill.web_now, mill.log_now), ("a", ((2, False, (), ()),)))
        for _ in range(2):
            for moment in moments[-2::-1]:
                mill.undo()
                self.assertEqual(told_of(mill), moment)
            for moment in moments[1:]:
                mill.redo()
                self.assertEqual(told_of(mill), moment)
        raised(NothingToRedo, mill.redo)
        mill.undo()
        mill.undo()
        self.assertEqual(mill.ask(0, "?"), ("told", "?a"))
        raised(NothingToRedo, mill.redo)
        for _ in range(10):
            mill.undo()
        raised(NothingToUndo, mill.undo)
        self.assertEqual(told_of(mill), (PLAIN, "", (), (), ()))

    def test_failed_calls_change_nothing(self):
        mill = self.crossed()
        mill.ask(0, "a")
        mill.begin()
        mill.undo()
        before = told_of(mill)
        for call in (lambda: mill.ask(0, "b"), lambda: mill.ask(7, "b"), lambda: mill.ask(1, "c"), lambda: mill.hand_in(0),
                     lambda: mill.hand_in(7), lambda: mill.take_out(7), lambda: mill.drop(1), lambda: mill.status(7)):
            with self.assertRaises((Waits, NoHand, BadDeed, NoWish)):
                call()
        self.assertEqual(told_of(mill), before)
        mill.redo()
        self.assertEqual(len(mill), 3)

    def test_tried(self):
        mill = self.crossed()
        mill.ask(0, "a")
        mill.begin()
        mill.undo()
        before = told_of(mill)

        def busy(held):
            self.assertIs(held, mill)
            held.undo()
            held.take_out(1)
            held.hand_in(0)
            Gate(held).put("word", ("a",))
            Gate(held).bring(Book("ab", (("a", "a", ""),)))
            self.assertEqual(held.tried(lambda inner: (inner.begin(), inner.begin())), (2, 3))
            return told_of(held)

        self.assertEqual(mill.tried(action=busy)[1:3], ("", ()))
        self.assertEqual((told_of(mill), Gate(mill).names()), (before, ()))

        def failing(held):
            held.take_out(1)
            held.drop(5)

        self.assertEqual(raised(NoHand, lambda: mill.tried(failing)).number, 5)
        raised(ZeroDivisionError, lambda: mill.tried(lambda held: held.begin() // 0))
        self.assertEqual(told_of(mill), before)
        # What can be taken back and made again is as it was, too.
        mill.redo()
        self.assertEqual(mill.log_now[-1][0], 2)
        mill.undo()
        mill.undo()
        self.assertEqual(mill.kept_now, ())

    def test_wrong_values(self):
        mill = Mill(PLAIN)
        mill.begin()
        mill.begin()
        mill.hand_in(0)
        for thing in WRONG:
            if not (isinstance(thing, int) and not isinstance(thing, bool) and thing == 1):
                for call in (lambda: mill.ask(thing, "?"), lambda: mill.ask(thing, 1), lambda: mill.hand_in(thing),
                             lambda: mill.take_out(thing), lambda: mill.drop(thing), lambda: mill.status(thing)):
                    self.assertIs(raised(NoHand, call).number, thing)
            if thing not in ("?", "a") or not isinstance(thing, str):
                self.assertIs(raised(BadDeed, lambda: mill.ask(1, thing)).thing, thing)
        self.assertEqual(mill.log_now, ((0, True, (), ()), (1, False, (), ())))

    def test_what_is_reckoned_in_may_be_long(self):
        mill = Mill(PLAIN, "ab" * 30)
        for _ in range(7):
            mill.begin()
            number = mill.log_now[-1][0]
            for _ in range(5):
                mill.ask(number, "b")
            mill.hand_in(number)
        self.assertEqual(mill.web_now, "ab" * 30 + "b" * 35)
        self.assertEqual((mill.begin(), mill.ask(7, "?")), (7, ("told", "?b")))


if __name__ == "__main__":
    unittest.main()
