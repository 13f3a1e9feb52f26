"""[2.4], texts of end sets, and the interface of tellers."""

import unittest

from millhands.errors import BadTeller, BadText, BadWeb, OtherLetters
from millhands.tellers import (Teller, all_webs, both, but_not, either, ending, ends_read, ends_text, first_web,
                               is_covered, is_covered_at_once, is_empty, is_end_set, is_within, judge_within, lone_web,
                               longest, many_webs, no_webs, within_holds)
from tests.support import WRONG, X, altered, seeded, some_ends, some_web, webs_to


def nested(value, depth):
    """A value within so many tuples."""
    for _ in range(depth):
        value = (value,)
    return value


VALUES = ("", "a", True, False, (), (1,), (True,), (0,), (False,), ((1,), "a"), (("waits", (((), (0,)),)),),
          ("told", "?a"), nested((), 10), nested((1,), 10), nested((True,), 10))


def said_by_hand(teller, web, at=0):
    node = teller.nodes[at]
    if node[0] == "says" or web == "":
        return node[1]
    return said_by_hand(teller, web[:-1], node[2 + teller.letters.index(web[-1])])


def is_just(one, other):
    """Whether two values are the same, kinds and all."""
    return repr(one) == repr(other)


class Tellers(unittest.TestCase):
    def part_of(self, letters, nodes):
        with self.assertRaises(BadTeller) as caught:
            Teller(letters, nodes)
        return caught.exception.part

    def test_attributes(self):
        ends = Teller(nodes=(("reads", False, 1, 0), ("says", True)), letters="ab")
        self.assertEqual((ends.letters, ends.nodes), ("ab", (("reads", False, 1, 0), ("says", True))))
        self.assertEqual(len(ends), 2)
        for value in VALUES:
            self.assertTrue(is_just(Teller("ab", (("says", value),)).says("ab"), value))
            self.assertTrue(is_just(Teller("ab", (("reads", value, 0, 0),)).least().nodes, (("says", value),)))

    def test_wrong(self):
        for letters in ("", "ba", 3, None, ["a"], X):
            self.assertEqual(self.part_of(letters, "wrong"), "letters")
        for nodes in ((), [], None, "", 0, {}, [("says", True)]):
            self.assertEqual(self.part_of("ab", nodes), "nodes")
        for node in WRONG + (("says",), ("says", 1), ("says", None), ("says", [1]), ("says", (None,)), ("says", ((1, []),)),
                             ("says", True, 0), ("says", X), ("says", (X,)), ("reads", True), ("reads", True, 0),
                             ("reads", True, 0, 2), ("reads", True, 0, -1), ("reads", True, 0, True),
                             ("reads", True, 0, 0, 0), ("reads", 0, 0, 0), ("reads", None, 0, 0), ["says", True],
                             ("stops", True), ("says", {}), ("reads", True, "0", 0)):
            self.assertEqual(self.part_of("ab", (("says", True), node)), 1, node)
            self.assertEqual(self.part_of("ab", (node, 7)), 0)

    def test_equal(self):
        for one in VALUES:
            for other in VALUES:
                self.assertEqual(Teller("ab", (("says", one),)) == Teller("ab", (("says", other),)), is_just(one, other))
        self.assertFalse(all_webs("ab") == all_webs("abx"))
        for thing in WRONG:
            self.assertEqual(no_webs("ab") == thing, False)
        self.assertTrue(all_webs("ab") != no_webs("ab"))

    def test_says(self):
        random = seeded(9)
        for letters in ("a", "ab", "abc"):
            for _ in range(20):
                ends = some_ends(random, letters, random.randint(1, 6))
                for web in webs_to(letters, 4):
                    self.assertIs(ends.says(web=web), said_by_hand(ends, web))
        for thing in ("c", 3, None, ("a",), True):
            with self.assertRaises(BadWeb) as caught:
                all_webs("ab").says(thing)
            self.assertIs(caught.exception.thing, thing)

    def test_least(self):
        random = seeded(10)
        for letters in ("a", "ab", "abc"):
            for _ in range(60):
                many = random.randint(1, 7)
                values = [random.choice(VALUES[:9]) for _ in range(3)]
                nodes = tuple(("reads", random.choice(values), *[random.randrange(many) for _ in letters])
                              if random.random() < 0.8 else ("says", random.choice(values)) for _ in range(many))
                teller = Teller(letters, nodes)
                least = teller.least()
                for web in webs_to(letters, 5 if len(letters) < 3 else 4):
                    self.assertTrue(is_just(least.says(web), teller.says(web)))
                self.assertTrue(least.is_least())
                self.assertEqual(teller.is_least(), teller == least)
                seen = {repr([said_by_hand(least, web, at) for web in webs_to(letters, 5)]) for at in range(len(least))}
                self.assertEqual(len(seen), len(least))
                met = [0]
                for at in range(len(least)):
                    met += [to for to in dict.fromkeys(least.nodes[at][2:]) if to not in met]
                self.assertEqual(met, list(range(len(least))))

    def test_least_of_the_same_put_otherwise(self):
        one = Teller("ab", (("reads", True, 1, 2), ("reads", False, 2, 1), ("reads", True, 0, 0), ("says", "never met")))
        other = Teller("ab", (("reads", True, 3, 1), ("reads", True, 2, 0), ("reads", True, 4, 1), ("reads", False, 1, 3),
                              ("reads", False, 1, 4)))
        self.assertEqual(one.least(), other.least())
        self.assertFalse(one.is_least())
        kinds = Teller("a", (("reads", (1,), 1), ("says", (True,))))
        self.assertTrue(kinds.is_least())
        self.assertEqual(Teller("a", (("reads", (1,), 1), ("says", (1,)))).least().nodes, (("says", (1,)),))

    def test_long_rings(self):
        many = 400
        ring = Teller("ab", tuple(("reads", k == 0, (k + 1) % many, k) for k in range(many)))
        self.assertEqual(len(ring.least()), many)
        twice = Teller("ab", tuple(("reads", k % 200 == 0, (k + 1) % many, k) for k in range(many)))
        self.assertEqual(len(twice.least()), 200)

    def test_is_end_set(self):
        self.assertIs(is_end_set(thing=all_webs("ab")), True)
        self.assertIs(is_end_set(Teller("ab", (("says", True), ("says", "never met")))), False)
        for thing in (X, None, (("says", True),), Teller("ab", (("says", ()),)), 1, "ends ab"):
            self.assertIs(is_end_set(thing), False)


class EndSets(unittest.TestCase):
    def line_of(self, text):
        with self.assertRaises(BadText) as caught:
            ends_read(text)
        return caught.exception.line

    def test_text(self):
        ends = ending("abx", "a")
        self.assertEqual(ends_text(ends), "ends abx\nreads no 1 2 2\nsays yes\nsays no")
        random = seeded(11)
        for letters in ("a", "ab", "abc", "abcdefghijklmnopqrstuvwxyz"):
            for many in (1, 3, 12, 30):
                ends = some_ends(random, letters, many)
                self.assertEqual(ends_read(text=ends_text(ends=ends)), ends)

    def test_wrong_text(self):
        for thing in WRONG:
            if not isinstance(thing, str):
                self.assertEqual(self.line_of(thing), 0)
        for text in ("", "ends", "ends ba", "reader ab", "ends ab ", "ends  ab"):
            self.assertEqual(self.line_of(text), 1)
            self.assertEqual(self.line_of(text + "\nwrong"), 1)
        self.assertEqual(self.line_of("ends ab"), 2)
        for line in ("", "says", "says maybe", "says yes ", "says yes 0", "reads yes", "reads yes 0", "reads yes 0 3",
                     "reads yes 0 0 0", "reads yes 0 00", "reads no 0 -1", "stops yes", "none", "says True", "says Yes",
                     "reads  yes 0 0", "says yes no", "reads yes 0 " + "9" * 1900):
            self.assertEqual(self.line_of("ends ab\nsays no\n" + line), 3)
            self.assertEqual(self.line_of("ends ab\nsays no\n" + line + "\nwrong"), 3)
        self.assertEqual(self.line_of("ends ab\nreads yes 0 1\nsays no\n"), 4)

    def test_examples(self):
        self.assertEqual(no_webs("abx"), Teller("abx", (("says", False),)))
        self.assertEqual(ending("abx", "a"),
                         Teller("abx", (("reads", False, 1, 2, 2), ("says", True), ("says", False))))

    def test_made_end_sets(self):
        for letters in ("a", "ab", "abc"):
            webs = webs_to(letters, 4)
            self.assertEqual(all_webs(letters=letters).nodes, (("says", True),))
            self.assertEqual(no_webs(letters=letters).nodes, (("says", False),))
            for web in webs_to(letters, 3):
                lone = lone_web(letters=letters, web=web)
                end = ending(letters=letters, end=web)
                self.assertTrue(lone.is_least() and end.is_least())
                self.assertEqual([held for held in webs if lone.says(held)], [web])
                self.assertEqual([held for held in webs if end.says(held)], [held for held in webs if held.endswith(web)])
        self.assertEqual(ending("ab", ""), all_webs("ab"))

    def test_combined(self):
        random = seeded(12)
        for letters in ("a", "ab", "abc"):
            webs = webs_to(letters, 4)
            for _ in range(25):
                one = some_ends(random, letters, random.randint(1, 6))
                other = some_ends(random, letters, random.randint(1, 6))
                for call, truth in ((both, lambda left, right: left and right), (either, lambda left, right: left or right),
                                    (but_not, lambda left, right: left and not right)):
                    found = call(one=one, other=other)
                    self.assertTrue(found.is_least() and is_end_set(found))
                    for web in webs:
                        self.assertIs(found.says(web), truth(one.says(web), other.says(web)))

    def test_first_and_many(self):
        random = seeded(13)
        for letters in ("a", "ab", "abc"):
            webs = webs_to(letters, 7 if len(letters) < 3 else 5)
            for _ in range(40):
                ends = some_ends(random, letters, random.randint(1, 5))
                held = [web for web in webs if ends.says(web)]
                self.assertEqual(first_web(ends=ends), held[0] if held else None)
                self.assertIs(is_empty(ends=ends), not held)
                for length in range(5):
                    self.assertEqual(many_webs(ends, length), len([web for web in held if len(web) == length]))
        self.assertEqual(first_web(both(ending("ab", "a"), but_not(all_webs("ab"), lone_web("ab", "a")))), "aa")
        self.assertEqual(many_webs(all_webs("abc"), 60), 3 ** 60)
        self.assertEqual(many_webs(ends=ending("ab", "ab"), length=60), 2 ** 58)
        self.assertEqual(many_webs(no_webs("ab"), 0), 0)

    def test_first_web_by_its_beginning(self):
        ends = either(lone_web("ab", "ba"), lone_web("ab", "ab"))
        self.assertEqual(first_web(ends), "ab")
        self.assertEqual(first_web(either(lone_web("ab", "bba"), lone_web("ab", "abb"))), "abb")

    def test_longest(self):
        self.assertEqual(longest(no_webs("ab")), -1)
        self.assertIsNone(longest(all_webs("ab")))
        self.assertIsNone(longest(ending("ab", "abb")))
        self.assertEqual(longest(lone_web("ab", "")), 0)
        self.assertEqual(longest(ends=lone_web("ab", "ab" * 30)), 60)
        self.assertEqual(longest(either(lone_web("ab", "a"), lone_web("ab", "bab"))), 3)
        self.assertIsNone(longest(Teller("ab", (("reads", True, 0, 1), ("says", False)))))
        self.assertEqual(longest(Teller("ab", (("reads", False, 0, 1), ("reads", False, 1, 0)))), -1)
        random = seeded(14)
        for letters in ("a", "ab"):
            webs = webs_to(letters, 9)
            for _ in range(60):
                ends = some_ends(random, letters, random.randint(1, 4))
                top = max([len(web) for web in webs if ends.says(web)], default=-1)
                self.assertEqual(longest(ends), top if top < 4 else None)

    def test_within(self):
        random = seeded(15)
        kinds = set()
        for letters in ("a", "ab", "abc"):
            webs = webs_to(letters, 5 if len(letters) < 3 else 4)
            for _ in range(60):
                one = some_ends(random, letters, random.randint(1, 4))
                other = either(one, some_ends(random, letters, 3)) if random.random() < 0.5 else some_ends(random, letters, 4)
                beyond = [web for web in webs if one.says(web) and not other.says(web)]
                paper = judge_within(one, other)
                kinds.add(paper[0])
                self.assertIs(is_within(one=one, other=other), paper[0] == "within")
                self.assertIs(within_holds(one, other, paper), True)
                self.assertEqual(paper[0] == "beyond", bool(beyond) or paper[0] == "beyond")
                if beyond:
                    self.assertEqual(paper, ("beyond", beyond[0]))
                for web in webs:
                    self.assertEqual(within_holds(one, other, ("beyond", web)), web in beyond)
                for thing in altered(paper):
                    if within_holds(one, other, thing):
                        self.assertEqual(thing[0], paper[0])
                every = tuple((left, right) for left in range(len(one)) for right in range(len(other)))
                self.assertFalse(paper[0] == "beyond" and within_holds(one, other, ("within", every)))
        self.assertEqual(kinds, {"within", "beyond"})

    def test_within_papers(self):
        one = Teller("ab", (("reads", False, 1, 0), ("says", True)))
        pairs = ((0, 0), (1, 0))
        self.assertTrue(within_holds(one, all_webs("ab"), ("within", pairs)))
        self.assertFalse(within_holds(one, all_webs("ab"), ("within", pairs[::-1])))
        self.assertFalse(within_holds(one, all_webs("ab"), ("within", list(pairs))))
        self.assertFalse(within_holds(one, all_webs("ab"), ("within", pairs + pairs[1:])))
        self.assertFalse(within_holds(one, all_webs("ab"), ("within", ((0, 0), (True, 0)))))
        self.assertFalse(within_holds(one, all_webs("ab"), ("within", ((0, False), (1, 0)))))
        self.assertFalse(within_holds(one, all_webs("ab"), ("within", ((0, 0),))))
        self.assertFalse(within_holds(one, all_webs("ab"), ("within", ((1, 0),))))
        self.assertFalse(within_holds(one, all_webs("ab"), ("within", ((0, 0), (1, 1)))))
        self.assertFalse(within_holds(one, no_webs("ab"), ("within", pairs)))
        self.assertTrue(within_holds(one, no_webs("ab"), ("beyond", "ab" * 30 + "a")))
        self.assertTrue(within_holds(no_webs("ab"), one, ("within", ((0, 0), (0, 1)))))
        self.assertTrue(within_holds(all_webs("ab"), one, ("beyond", "")))
        for thing in WRONG + (("beyond", None), ("beyond", "c"), ("within", ((0,),)), ("within", (0, 0)), ("within", "")):
            self.assertIs(within_holds(one=one, other=all_webs("ab"), thing=thing), False)

    def test_covered(self):
        random = seeded(17)
        kinds = set()
        for turn in range(150):
            letters = random.choice(["a", "ab", "abc"])
            ends = some_ends(random, letters, 4)
            parts = [some_ends(random, letters, 3) for _ in range(random.randint(0, 4))]
            if turn % 3 == 0:
                split = some_ends(random, letters, 3)
                parts += [both(ends, split), but_not(ends, split)]
                random.shuffle(parts)
            union = no_webs(letters)
            for part in parts:
                union = either(union, part)
            wanted = is_within(ends, union)
            kinds.add((wanted, bool(parts)))
            self.assertIs(is_covered(ends, parts), wanted)
            self.assertIs(is_covered_at_once(ends, parts), wanted)
        self.assertTrue({(True, True), (False, True), (False, False)} <= kinds)

    def test_covered_by_many(self):
        """Parts that only all together have all webs, and whose rests grow great on the way."""
        random = seeded(18)
        ends = [some_ends(random, "ab", 9) for _ in range(4)]
        parts = [all_webs("ab")]
        for split in ends:
            parts = [part(held, split) for held in parts for part in (both, but_not)]
        self.assertTrue(is_covered(all_webs("ab"), parts))
        self.assertTrue(is_covered_at_once(all_webs("ab"), parts))
        left = parts[1:] if not is_empty(parts[0]) else parts[:-1]
        self.assertFalse(is_covered(all_webs("ab"), left))
        self.assertFalse(is_covered_at_once(all_webs("ab"), left))

    def test_other_letters(self):
        one, other = all_webs("ab"), all_webs("abx")
        for call in (both, either, but_not, is_within, judge_within, lambda *two: within_holds(*two, 7)):
            with self.assertRaises(OtherLetters):
                call(one, other)

    def test_limits(self):
        random = seeded(16)
        for letters in ("a", "ab", "abc"):
            one, other = some_ends(random, letters, 12), some_ends(random, letters, 12)
            found = both(one, but_not(other, either(one, other)))
            self.assertTrue(is_empty(found) or first_web(found) is not None)
            self.assertTrue(within_holds(one, other, judge_within(one, other)))
            forty, fifty = some_ends(random, letters, 40), some_ends(random, letters, 50)
            self.assertTrue(within_holds(forty, fifty, judge_within(forty, fifty)))
            self.assertTrue(within_holds(forty, either(forty, fifty), judge_within(forty, either(forty, fifty))))
            web = some_web(random, letters, 60)
            self.assertEqual(first_web(lone_web(letters, web)), web)
