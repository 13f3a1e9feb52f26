"""[2.1], [2.2], [2.4] as far as the interface of ledsets names them."""

import unittest

from millhands.errors import OtherLetters, TooMany
from millhands.ledsets import alike_holds, alike_set, domain, first_apart, judge_alike, led_from, led_into
from millhands.readers import Reader, are_alike, joined, unchanged
from millhands.tellers import (Teller, all_webs, both, ending, first_web, is_empty, is_end_set, is_within, lone_web, longest,
                               many_webs, no_webs)
from tests.support import WRONG, X, altered, seeded, some_ends, some_reader, some_web, webs_to
from tests.test_readers import shuffled

LOOK = Reader("abx", (("reads", None, 1, 2, 2), ("stops", ""), ("none",)))


class LedSets(unittest.TestCase):
    def test_examples(self):
        self.assertEqual(first_apart(X, joined(X, X)), "")
        self.assertEqual(alike_set(X, unchanged("abx")), no_webs("abx"))
        self.assertEqual(domain(LOOK), ending("abx", "a"))
        found = led_into(X, lone_web("abx", "a"))
        self.assertEqual(many_webs(found, 2), 2)
        self.assertTrue(found.says("aa") and found.says("ab"))
        self.assertEqual(first_web(found), "aa")
        self.assertEqual(longest(found), 2)
        self.assertEqual(led_from(X, all_webs("abx")), all_webs("abx"))
        self.assertEqual(led_from(X, no_webs("abx")), no_webs("abx"))

    def test_domain(self):
        random = seeded(20)
        for letters in ("a", "ab", "abc"):
            for _ in range(30):
                reader = some_reader(random, letters, random.randint(1, 6))
                found = domain(reader=reader)
                self.assertTrue(found.is_least() and is_end_set(found))
                for web in webs_to(letters, 4):
                    self.assertIs(found.says(web), reader.made(web) is not None)

    def test_alike_set(self):
        random = seeded(21)
        for letters in ("a", "ab", "abc"):
            for _ in range(60):
                one = some_reader(random, letters, random.randint(1, 5), 2)
                other = some_reader(random, letters, random.randint(1, 5), 2)
                if random.random() < 0.5:
                    nodes = list(shuffled(random, one).nodes)
                    nodes[random.randrange(len(nodes))] = random.choice([("none",), ("stops", "a")])
                    other = Reader(letters, tuple(nodes))
                found = alike_set(one=one, other=other)
                self.assertTrue(found.is_least() and is_end_set(found))
                webs = webs_to(letters, 5 if len(letters) < 3 else 4)
                for web in webs:
                    self.assertIs(found.says(web), one.made(web) == other.made(web))
                apart = [web for web in webs if one.made(web) != other.made(web)]
                first = first_apart(one=one, other=other)
                if apart:
                    self.assertEqual(first, apart[0])
                self.assertEqual(first is None, are_alike(one, other))

    def test_alike_beyond_a_ring(self):
        one = Reader("ab", (("reads", None, 1, 0), ("stops", "a")))
        other = Reader("ab", (("reads", None, 1, 2), ("stops", "a"), ("reads", None, 3, 0), ("reads", "ba", 3, 3)))
        found = alike_set(one, other)
        for web in webs_to("ab", 7):
            self.assertIs(found.says(web), one.made(web) == other.made(web))
        keeps = Reader("a", (("reads", "", 1), ("stops", "a")))
        self.assertEqual(alike_set(keeps, unchanged("a")), all_webs("a"))
        eats = Reader("a", (("reads", "aa", 0),))
        self.assertEqual(alike_set(eats, unchanged("a")), lone_web("a", "aa"))

    def test_led_into(self):
        random = seeded(22)
        for letters in ("a", "ab", "abc"):
            for _ in range(50):
                reader = some_reader(random, letters, random.randint(1, 5))
                ends = some_ends(random, letters, random.randint(1, 5))
                found = led_into(reader=reader, ends=ends)
                self.assertTrue(found.is_least() and is_end_set(found))
                for web in webs_to(letters, 4):
                    made = reader.made(web)
                    self.assertIs(found.says(web), made is not None and ends.says(made))

    def test_led_from(self):
        random = seeded(23)
        for letters in ("a", "ab", "abc"):
            for _ in range(50):
                reader = some_reader(random, letters, random.randint(1, 4), 2)
                ends = some_ends(random, letters, random.randint(1, 4))
                found = led_from(reader=reader, ends=ends, most=100000)
                self.assertTrue(found.is_least() and is_end_set(found))
                length = 9 if len(letters) == 1 else 8 if len(letters) == 2 else 6
                made = {reader.made(web) for web in webs_to(letters, length) if ends.says(web)}
                for web in webs_to(letters, 3):
                    self.assertGreaterEqual(found.says(web), web in made)
                    # Whatever is made of a web of the end set is so of some web, however long.
                    sources = both(led_into(reader, lone_web(letters, web)), ends)
                    self.assertIs(found.says(web), not is_empty(sources))
                self.assertTrue(is_within(both(domain(reader), ends), led_into(reader, found)))

    def test_led_from_short(self):
        random = seeded(24)
        for letters in ("a", "ab"):
            for _ in range(60):
                nodes = [("reads", some_web(random, letters, 2), *[random.choice((1, 2)) for _ in letters]),
                         ("stops", some_web(random, letters, 2)),
                         ("reads", None, *[random.choice((1, 3)) for _ in letters]), ("none",)]
                reader = Reader(letters, tuple(nodes))
                ends = some_ends(random, letters, random.randint(1, 5))
                made = {reader.made(web) for web in webs_to(letters, 7) if ends.says(web)}
                found = led_from(reader, ends)
                for web in webs_to(letters, 5):
                    self.assertIs(found.says(web), web in made)

    def test_led_from_through_a_ring(self):
        eats = Reader("ab", (("reads", None, 0, 1), ("stops", "")))
        self.assertEqual(led_from(eats, all_webs("ab")), all_webs("ab"))
        self.assertEqual(led_from(eats, lone_web("ab", "abaaa")), lone_web("ab", "a"))
        whole = Reader("ab", (("reads", "ab", 0, 0),))
        self.assertEqual(led_from(whole, ending("ab", "b")), lone_web("ab", "ab"))
        self.assertEqual(led_from(Reader("ab", (("none",),)), all_webs("ab")), no_webs("ab"))
        self.assertEqual(led_from(Reader("ab", (("stops", "b"),)), lone_web("ab", "a")), lone_web("ab", "ab"))

    def test_most(self):
        random = seeded(25)
        for letters in ("a", "ab", "abc"):
            for _ in range(15):
                reader = some_reader(random, letters, random.randint(1, 6))
                ends = some_ends(random, letters, random.randint(1, 6))
                found = led_from(reader, ends, most=5000)
                self.assertEqual(led_from(reader, ends, most=len(found)), found)
                for most in (len(found) - 1, 0):
                    with self.assertRaises(TooMany) as caught:
                        led_from(reader, ends, most=most)
                    self.assertEqual(caught.exception.most, most)
        with self.assertRaises(TypeError):
            led_from(X, all_webs("abx"), 400)

    def test_most_where_sets_of_nodes_are_many(self):
        many = 40
        walk = tuple(("reads", k % 3 == 0, (k + 1) % many, (k * k + 3) % many, (7 * k + 1) % many) for k in range(many))
        reader = Reader("abc", (("reads", "a", 1, 2, 3), ("stops", ""), ("stops", "ab"), ("reads", None, 1, 0, 2)))
        with self.assertRaises(TooMany) as caught:
            led_from(reader, Teller("abc", walk))
        self.assertEqual(caught.exception.most, 400)

    def test_alike_papers(self):
        random = seeded(26)
        kinds = set()
        for letters in ("a", "ab"):
            for _ in range(20):
                one = some_reader(random, letters, random.randint(1, 4), 2)
                other = shuffled(random, one) if random.random() < 0.5 else some_reader(random, letters, 3, 2)
                paper = judge_alike(one, other)
                kinds.add(paper[0])
                self.assertIs(alike_holds(one, other, paper), True)
                if paper[0] == "alike":
                    self.assertEqual(paper[1], one.least().nodes)
                for web in webs_to(letters, 3):
                    self.assertEqual(alike_holds(one, other, ("apart", web)), one.made(web) != other.made(web))
                self.assertEqual(alike_holds(one, other, ("alike", one.least().nodes)), paper[0] == "alike")
                for thing in altered(paper):
                    if repr(thing) != repr(paper) and alike_holds(one, other, thing):
                        self.assertEqual((thing[0], paper[0]), ("apart", "apart"))
        self.assertEqual(kinds, {"alike", "apart"})

    def test_wrong_papers(self):
        self.assertTrue(alike_holds(X, X, ("alike", X.nodes)))
        swapped = (("reads", "x", True, 1, 2),) + X.nodes[1:]
        self.assertFalse(alike_holds(X, X, ("alike", swapped)))
        self.assertFalse(alike_holds(X, X, ("alike", list(X.nodes))))
        self.assertFalse(alike_holds(X, X, ("alike", X)))
        self.assertFalse(alike_holds(X, X, ("alike", X.nodes, ())))
        self.assertFalse(alike_holds(X, joined(X, X), ("alike", X.nodes)))
        self.assertFalse(alike_holds(joined(X, X), X, ("alike", X.nodes)))
        self.assertFalse(alike_holds(X, unchanged("abx"), ("apart", "c")))
        self.assertTrue(alike_holds(X, unchanged("abx"), ("apart", "ab" * 30)))
        for thing in WRONG:
            self.assertIs(alike_holds(one=X, other=X, thing=thing), False)
            self.assertIs(alike_holds(X, joined(X, X), thing), False)
            self.assertIs(alike_holds(X, X, ("alike", thing)), False)
            self.assertIs(alike_holds(X, X, ("apart", thing)), False)

    def test_other_letters(self):
        other = unchanged("ab")
        for call in (alike_set, first_apart, judge_alike, lambda *two: alike_holds(*two, 7)):
            with self.assertRaises(OtherLetters):
                call(X, other)
        for call in (led_into, led_from, lambda *two: led_from(*two, most=0)):
            with self.assertRaises(OtherLetters):
                call(X, all_webs("ab"))

    def test_limits(self):
        random = seeded(27)
        for letters in ("a", "ab", "abc"):
            for left, right, length in ((12, 12, 6), (40, 50, 200), (4, 500, 60)):
                one, other = some_reader(random, letters, left, length), some_reader(random, letters, right, length)
                ends = some_ends(random, letters, right)
                same, into = alike_set(one, other), led_into(one, ends)
                first = first_apart(one, other)
                self.assertTrue(first is None or one.made(first) != other.made(first))
                self.assertTrue(alike_holds(one, other, judge_alike(one, other)))
                for _ in range(20):
                    web = some_web(random, letters, 60)
                    made = one.made(web)
                    self.assertIs(same.says(web), made == other.made(web))
                    self.assertIs(into.says(web), made is not None and ends.says(made))
