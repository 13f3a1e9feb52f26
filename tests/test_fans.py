"""[2.5] and the interface of fans."""

import unittest

from millhands.errors import BadFan, BadWeb, OtherLetters, TooMany
from millhands.fans import Fan, first_forked, gathered, only_ones, where_made
from millhands.readers import Reader, unchanged
from millhands.tellers import is_end_set
from millhands.wefts import reader_of
from tests.support import (BOOKS, POP, WRONG, X, seeded, some_book, some_fan, some_web, some_weft, some_words, webs_to)


def made_by_hand(fan, web, at=0):
    node = fan.nodes[at]
    if node[0] == "stops":
        return tuple(sorted(web + word for word in node[1]))
    if web == "":
        return node[1]
    return made_by_hand(fan, web[:-1], node[2 + fan.letters.index(web[-1])])


def put_otherwise(random, fan):
    """A fan that makes the same: nodes doubled, some never met, stops that read one letter more."""
    nodes = []
    for node in fan.nodes:
        for _ in range(2):
            numbers = [2 * number + random.randint(0, 1) for number in node[2:]]
            nodes.append((node[0], node[1], *numbers))
    for at, node in enumerate(list(nodes)):
        if node[0] == "stops" and random.random() < 0.5:
            nodes[at] = ("reads", node[1], *[len(nodes) + k for k in range(len(fan.letters))])
            nodes += [("stops", tuple(letter + word for word in node[1])) for letter in fan.letters]
    return Fan(fan.letters, tuple(nodes))


class Fans(unittest.TestCase):
    def part_of(self, letters, nodes):
        with self.assertRaises(BadFan) as caught:
            Fan(letters, nodes)
        return caught.exception.part

    def test_attributes(self):
        fan = Fan(nodes=(("reads", ("", "a"), 1, 1), ("stops", ())), letters="ab")
        self.assertEqual((fan.letters, fan.nodes), ("ab", (("reads", ("", "a"), 1, 1), ("stops", ()))))
        self.assertEqual(len(fan), 2)
        self.assertTrue(fan == Fan("ab", fan.nodes))
        self.assertFalse(fan == Fan("ab", fan.nodes[1:]))
        self.assertFalse(Fan("a", (("stops", ()),)) == Fan("ab", (("stops", ()),)))
        for thing in WRONG:
            self.assertEqual(fan == thing, False)
        self.assertFalse(Fan("ab", (("stops", ()),)) == unchanged("ab"))

    def test_wrong(self):
        for letters in ("", "ba", 3, None, ["a"]):
            self.assertEqual(self.part_of(letters, "wrong"), "letters")
        for nodes in ((), [], None, "", 0, {}):
            self.assertEqual(self.part_of("ab", nodes), "nodes")
        for node in WRONG + (("stops",), ("stops", None), ("stops", "a"), ("stops", ["a"]), ("stops", ("b", "a")),
                             ("stops", ("a", "a")), ("stops", ("c",)), ("stops", (1,)), ("stops", (), 0), ("reads", ()),
                             ("reads", (), 1), ("reads", (), 1, 3), ("reads", (), 1, -1), ("reads", (), 1, True),
                             ("reads", "a", 1, 1), ("reads", None, 1, 1), ("reads", (), 1, 1, 1), ["stops", ()],
                             ("none",), ("stops", ("", "a", "")), ("stops", ("b", "ab"))):
            self.assertEqual(self.part_of("ab", (("reads", (), 0, 0), node, ("stops", ()))), 1, node)
        self.assertEqual(self.part_of("ab", (7, 7)), 0)

    def test_rings_come_last(self):
        self.assertEqual(self.part_of("ab", (("reads", (), 0, 1), ("stops", ()))), "ring")
        self.assertEqual(self.part_of("ab", (("reads", (), 1, 2), ("reads", (), 2, 0), ("stops", ()))), "ring")
        self.assertEqual(self.part_of("ab", (("stops", ()), ("reads", (), 0, 1))), "ring")
        self.assertEqual(self.part_of("ab", (("stops", ()), ("reads", (), 2, 2), ("reads", (), 0, 1))), "ring")
        self.assertEqual(self.part_of("ab", (("reads", (), 0, 0), ("stops", None))), 1)
        Fan("ab", (("reads", (), 2, 2), ("stops", ()), ("reads", (), 1, 1)))

    def test_made(self):
        random = seeded(40)
        for letters in ("a", "ab", "abc"):
            for _ in range(30):
                fan = some_fan(random, letters, random.randint(1, 7))
                for web in webs_to(letters, 4):
                    self.assertEqual(fan.made(web=web), made_by_hand(fan, web))
        for thing in ("c", 3, None, ("a",)):
            with self.assertRaises(BadWeb) as caught:
                Fan("ab", (("stops", ()),)).made(thing)
            self.assertIs(caught.exception.thing, thing)

    def test_least(self):
        random = seeded(41)
        for letters in ("a", "ab", "abc"):
            for _ in range(40):
                fan = some_fan(random, letters, random.randint(1, 7))
                least = fan.least()
                self.assertTrue(least.is_least())
                self.assertEqual(fan.is_least(), fan == least)
                webs = webs_to(letters, 5 if len(letters) < 3 else 4)
                for web in webs:
                    self.assertEqual(least.made(web), fan.made(web))
                seen = {tuple(made_by_hand(least, web, at) for web in webs) for at in range(len(least))}
                self.assertEqual(len(seen), len(least))
                self.assertEqual(put_otherwise(random, fan).least(), least)
                met = [0]
                for at in range(len(least)):
                    met += [to for to in dict.fromkeys(least.nodes[at][2:]) if to not in met]
                self.assertEqual(met, list(range(len(least))))

    def test_least_edges(self):
        self.assertEqual(Fan("ab", (("reads", (), 1, 1), ("stops", ()))).least().nodes, (("stops", ()),))
        self.assertEqual(Fan("ab", (("reads", ("", "b"), 1, 2), ("stops", ("a", "ab")), ("stops", ("b", "bb")))).least().nodes,
                         (("stops", ("", "b")),))
        self.assertEqual(Fan("ab", (("reads", ("",), 1, 1), ("stops", ()))).least().nodes,
                         (("reads", ("",), 1, 1), ("stops", ())))

    def test_gathered(self):
        fan = gathered("abx", (X, unchanged("abx")))
        self.assertEqual(fan.made("ab"), ("a", "ab"))
        self.assertIsNone(only_ones(fan))
        self.assertEqual(first_forked(fan), "")
        random = seeded(42)
        for book in list(BOOKS) + [some_book(random, letters) for letters in ("a", "ab", "abc") * 5]:
            for many in range(4):
                readers = tuple(reader_of(book, some_weft(random, book.letters, 4)) for _ in range(many))
                fan = gathered(letters=book.letters, readers=readers, most=100000)
                self.assertTrue(fan.is_least())
                for web in webs_to(book.letters, 4):
                    made = {reader.made(web) for reader in readers} - {None}
                    self.assertEqual(fan.made(web), tuple(sorted(made)))

    def test_gathered_edges(self):
        self.assertEqual(gathered("ab", ()), Fan("ab", (("stops", ()),)))
        ends_a = Reader("ab", (("reads", "", 1, 2), ("stops", "a"), ("none",)))
        ends_b = Reader("ab", (("reads", None, 1, 2), ("none",), ("stops", "b")))
        self.assertEqual(gathered("ab", (ends_a, ends_b)), Fan("ab", (("stops", ("",)),)))
        nothing = Reader("ab", (("reads", None, 0, 0),))
        self.assertEqual(gathered("ab", (nothing, ends_a)).made("a"), ("a",))

    def test_most(self):
        random = seeded(43)
        for book in BOOKS:
            for _ in range(6):
                readers = tuple(reader_of(book, some_weft(random, book.letters, 4)) for _ in range(3))
                fan = gathered(book.letters, readers, most=5000)
                self.assertEqual(gathered(book.letters, readers, most=len(fan)), fan)
                for most in (len(fan) - 1, 0):
                    with self.assertRaises(TooMany) as caught:
                        gathered(book.letters, readers, most=most)
                    self.assertEqual(caught.exception.most, most)
        with self.assertRaises(TypeError):
            gathered("abx", (X,), 400)
        deep = reader_of(POP, ("x",) * 40)
        with self.assertRaises(TooMany):
            gathered("abx", (deep, unchanged("abx")))

    def test_other_letters(self):
        with self.assertRaises(OtherLetters):
            gathered("ab", (X,), most=0)
        with self.assertRaises(OtherLetters):
            gathered("abx", (X, unchanged("ab")))

    def test_told_of_fans(self):
        random = seeded(44)
        kinds = set()
        for letters in ("a", "ab", "abc"):
            for _ in range(60):
                fan = some_fan(random, letters, random.randint(1, 6))
                if random.random() < 0.5:
                    fan = Fan(letters, tuple((node[0], node[1][:1], *node[2:]) for node in fan.nodes))
                webs = webs_to(letters, 6 if len(letters) < 3 else 5)
                where = where_made(fan=fan)
                self.assertTrue(where.is_least() and is_end_set(where))
                for web in webs:
                    self.assertIs(where.says(web), len(fan.made(web)) > 0)
                forked = [web for web in webs if len(fan.made(web)) > 1]
                self.assertEqual(first_forked(fan=fan), forked[0] if forked else None)
                reader = only_ones(fan=fan)
                kinds.add(reader is None)
                self.assertEqual(reader is None, bool(forked))
                if reader is not None:
                    self.assertTrue(reader.is_least())
                    for web in webs:
                        self.assertEqual(reader.made(web), fan.made(web)[0] if fan.made(web) else None)
        self.assertEqual(kinds, {True, False})

    def test_nodes_never_met(self):
        fan = Fan("a", (("stops", ("a",)), ("stops", ("", "a"))))
        self.assertEqual(only_ones(fan), Reader("a", (("stops", "a"),)))
        self.assertIsNone(first_forked(fan))

    def test_limits(self):
        random = seeded(45)
        for letters in ("a", "ab", "abc"):
            nodes = [("reads", some_words(random, letters, 6, 4), *[random.randrange(at + 1, 12) for _ in letters])
                     for at in range(11)]
            fan = Fan(letters, (*nodes, ("stops", some_words(random, letters, 6, 4))))
            for _ in range(20):
                web = some_web(random, letters, 60)
                self.assertEqual(fan.least().made(web), fan.made(web))
                self.assertIs(where_made(fan).says(web), fan.made(web) != ())
