"""[2.1] to [2.3], texts of readers, and the interface of readers."""

import unittest

from millhands.errors import BadReader, BadText, BadWeb, OtherLetters
from millhands.readers import Reader, are_alike, joined, letters_read, unchanged
from tests.support import WRONG, X, seeded, some_reader, some_web, webs_to

ALPHABET = "abcdefghijklmnopqrstuvwxyz"


def made_by_hand(reader, web, at=0):
    """What a node makes of a web, as [2.1] says it."""
    node = reader.nodes[at]
    if node[0] == "none":
        return None
    if node[0] == "stops":
        return web + node[1]
    if web == "":
        return node[1]
    return made_by_hand(reader, web[:-1], node[2 + reader.letters.index(web[-1])])


def shuffled(random, reader, more=4):
    """A reader that is alike: nodes doubled, put otherwise, some never met, and stops that read one letter more."""
    letters = reader.letters
    nodes = list(reader.nodes)
    many = len(nodes)
    nodes += [node for node in nodes]
    nodes += [("none",), ("reads", "a", 0, *[2 * many + 1 for _ in letters[1:]])][:more]
    copies = [[at, at + many] for at in range(many)]

    def to(number):
        return random.choice(copies[number]) if number < many else number

    nodes = [(node[0], node[1], *[to(number) for number in node[2:]]) if node[0] == "reads" else node for node in nodes]
    for at, node in enumerate(list(nodes)):
        if node[0] == "stops" and random.random() < 0.5:
            nodes[at] = ("reads", node[1], *[len(nodes) + k for k in range(len(letters))])
            nodes += [("stops", letter + node[1]) for letter in letters]
    order = list(range(1, len(nodes)))
    random.shuffle(order)
    order = [0] + order
    place = {old: new for new, old in enumerate(order)}
    return Reader(letters, tuple((node[0], node[1], *[place[number] for number in node[2:]]) if node[0] == "reads"
                                 else node for node in (nodes[old] for old in order)))


class Readers(unittest.TestCase):
    def part_of(self, letters, nodes):
        with self.assertRaises(BadReader) as caught:
            Reader(letters, nodes)
        return caught.exception.part

    def line_of(self, text):
        with self.assertRaises(BadText) as caught:
            Reader.read(text)
        return caught.exception.line

    def test_attributes(self):
        self.assertEqual(X.letters, "abx")
        self.assertEqual(X.nodes, (("reads", "x", 1, 1, 2), ("stops", ""), ("stops", "xx")))
        self.assertEqual(len(X), 3)
        self.assertEqual(Reader(nodes=X.nodes, letters="abx"), X)
        self.assertEqual(len(Reader(ALPHABET, (("reads", None, *[0] * 26),))), 1)

    def test_wrong_letters_and_nodes(self):
        for letters in ("", "ba", "aa", "A", 3, None, ["a"], True, X):
            self.assertEqual(self.part_of(letters, "wrong"), "letters")
        for nodes in ((), [], None, "", 0, {}, [("none",)], X, "none"):
            self.assertEqual(self.part_of("ab", nodes), "nodes")

    def test_wrong_node(self):
        wrong = [thing for thing in WRONG if thing not in (("none",), ("stops", ""))]
        for node in wrong + [("none", ""), ("stops",), ("stops", None), ("stops", "c"), ("stops", "", 0), ("reads", ""),
                             ("reads", "", 0), ("reads", "", 0, 0, 0), ("reads", "", 0, 2), ("reads", "", 0, -1),
                             ("reads", "", 0, True), ("reads", "", False, 0), ("reads", "", "0", 0), ("reads", 0, 0, 0),
                             ("reads", "c", 0, 0), ("reads", "!", 0, 0), ["none"], ["reads", "", 0, 0], ("says", ""),
                             ("reads", ("",), 0, 0), ("reads", "", 0, None), ("Reads", "", 0, 0), ("stops", ["a"])]:
            self.assertEqual(self.part_of("ab", (("none",), node)), 1, node)
            self.assertEqual(self.part_of("ab", (node, 7)), 0)
        Reader("ab", (("reads", "", 0, 1), ("reads", None, 1, 1)))

    def test_equal(self):
        self.assertTrue(X == Reader("abx", X.nodes))
        self.assertFalse(X == Reader("abx", X.nodes + (("none",),)))
        self.assertFalse(unchanged("ab") == unchanged("abx"))
        for thing in WRONG:
            self.assertEqual(X == thing, thing is X)
        self.assertFalse(X == ("abx", X.nodes))

    def test_text(self):
        self.assertEqual(str(X), "reader abx\nreads x 1 1 2\nstops -\nstops xx")
        self.assertEqual(str(Reader("a", (("reads", None, 1), ("none",)))), "reader a\nreads ! 1\nnone")
        self.assertEqual(str(Reader("a", (("reads", "", 0),))), "reader a\nreads - 0")
        random = seeded(3)
        for letters in ("a", "ab", "abc", ALPHABET):
            for many in (1, 2, 12, 40):
                reader = some_reader(random, letters, many)
                self.assertEqual(Reader.read(str(reader)), reader)
        self.assertEqual(Reader.read(text="reader a\nstops aa").nodes, (("stops", "aa"),))

    def test_wrong_text(self):
        for thing in WRONG:
            if not isinstance(thing, str):
                self.assertEqual(self.line_of(thing), 0)
        for text in ("", "reader", "reader ba", "reader ", "book ab", "reader  ab", "reader ab ", "ends ab"):
            self.assertEqual(self.line_of(text), 1)
            self.assertEqual(self.line_of(text + "\nwrong"), 1)
        self.assertEqual(self.line_of("reader ab"), 2)
        for line in ("", "none ", "stops", "stops ", "stops c", "stops - -", "stops !", "reads", "reads -", "reads - 0",
                     "reads - 0 3", "reads - 0 00", "reads - 0 01", "reads - 0 +1", "reads - 0 -1", "reads - 0 1 ",
                     "reads  0 1", "reads c 0 0", "reads - 0 0 0", "reads - 0 1000000000000000000", "reads - 0 a",
                     "says yes", "reads ? 0 0", "reads - 0 1.0", "reads - 0 " + "1" * 1900, "reads -  0 1", "Stops -"):
            self.assertEqual(self.line_of("reader ab\nnone\n" + line), 3, line)
            self.assertEqual(self.line_of("reader ab\nnone\n" + line + "\nwrong"), 3, line)
        self.assertEqual(self.line_of("reader ab\nnone\n"), 3)
        self.assertEqual(self.line_of("reader ab\nreads - 0 1"), 2)
        self.assertEqual(self.line_of("reader ab\nreads - 0 2\nnone"), 2)
        self.assertEqual(self.line_of("reader ab\nreads - 0 2\nnone\nwrong"), 4)

    def test_made(self):
        self.assertEqual(X.made("ab"), "a")
        self.assertEqual(X.made("bx"), "bxx")
        self.assertEqual(X.made(""), "x")
        random = seeded(4)
        for letters in ("a", "ab", "abc"):
            for _ in range(20):
                reader = some_reader(random, letters, random.randint(1, 6))
                for web in webs_to(letters, 4):
                    self.assertEqual(reader.made(web=web), made_by_hand(reader, web))
        ring = Reader("ab", (("reads", "b", 0, 1), ("stops", "a")))
        self.assertEqual(ring.made("a" * 60), "b")
        self.assertEqual(ring.made("b" + "a" * 59), "a")

    def test_read_of(self):
        self.assertEqual(X.read_of("ab"), 1)
        self.assertEqual(X.read_of(""), 0)
        ring = Reader("ab", (("reads", "b", 0, 1), ("stops", "a")))
        self.assertEqual(ring.read_of("a" * 60), 60)
        self.assertEqual(ring.read_of("ba" + "a" * 3), 5)
        self.assertEqual(ring.read_of("abaa"), 3)
        self.assertEqual(unchanged("ab").read_of("abab"), 0)
        self.assertEqual(Reader("a", (("reads", "", 1), ("none",))).read_of("aaa"), 1)

    def test_wrong_webs(self):
        for thing in ("c", 3, None, ("a",), True, X, ["a"]):
            for call in (unchanged("ab").made, unchanged("ab").read_of):
                with self.assertRaises(BadWeb) as caught:
                    call(thing)
                self.assertIs(caught.exception.thing, thing)

    def test_least_is_alike_and_one(self):
        random = seeded(5)
        for letters in ("a", "ab", "abc"):
            for _ in range(40):
                reader = some_reader(random, letters, random.randint(1, 7))
                least = reader.least()
                for web in webs_to(letters, 5 if len(letters) < 3 else 4):
                    self.assertEqual(least.made(web), reader.made(web))
                self.assertTrue(least.is_least())
                self.assertEqual(least.least(), least)
                self.assertEqual(reader.is_least(), least == reader)
                for _ in range(3):
                    other = shuffled(random, reader)
                    self.assertEqual(other.least(), least)
                    self.assertTrue(are_alike(one=other, other=reader))

    def test_least_has_no_two_alike(self):
        random = seeded(6)
        webs = webs_to("ab", 6)
        for _ in range(60):
            nodes = some_reader(random, "ab", random.randint(1, 6)).least().nodes
            seen = []
            for at, node in enumerate(nodes):
                reader = Reader("ab", nodes)
                seen.append(tuple(made_by_hand(reader, web, at) for web in webs))
                if node[0] == "reads":
                    words = {made[len(web):] if made is not None and made.startswith(web) else None
                             for made, web in zip(seen[-1], webs)}
                    self.assertTrue(len(words) > 1 or words == {None})
                    self.assertNotEqual(set(seen[-1]), {None})
            self.assertEqual(len(set(seen)), len(nodes))
            met = [0]
            for at in range(len(nodes)):
                met += [to for to in dict.fromkeys(nodes[at][2:]) if to not in met]
            self.assertEqual(met, list(range(len(nodes))))

    def test_least_edges(self):
        self.assertEqual(Reader("ab", (("reads", None, 0, 1), ("reads", None, 1, 0))).least().nodes, (("none",),))
        self.assertEqual(Reader("ab", (("reads", "a", 1, 2), ("stops", "aa"), ("stops", "ba"))).least().nodes,
                         (("stops", "a"),))
        self.assertEqual(Reader("ab", (("reads", "a", 0, 0),)).least().nodes, (("reads", "a", 0, 0),))
        self.assertEqual(Reader("a", (("reads", "a", 1), ("reads", "a", 0))).least().nodes, (("reads", "a", 0),))
        self.assertEqual(Reader("a", (("stops", ""), ("reads", "a", 1))).least(), unchanged("a"))
        self.assertEqual(Reader("a", (("reads", None, 1), ("stops", ""))).least().nodes,
                         (("reads", None, 1), ("stops", "")))

    def test_joined(self):
        self.assertEqual(joined(X, X).nodes, (("reads", "xx", 1, 1, 2), ("reads", "x", 3, 3, 4), ("stops", "xxx"),
                                              ("stops", ""), ("stops", "xx")))
        random = seeded(7)
        for letters in ("a", "ab", "abc"):
            for _ in range(40):
                one = some_reader(random, letters, random.randint(1, 6))
                other = some_reader(random, letters, random.randint(1, 6))
                found = joined(one=one, other=other)
                self.assertTrue(found.is_least())
                for web in webs_to(letters, 4):
                    made = one.made(web)
                    self.assertEqual(found.made(web), None if made is None else other.made(made))
                self.assertEqual(joined(unchanged(letters), one), one.least())
                self.assertEqual(joined(one, unchanged(letters)), one.least())

    def test_letters_read(self):
        self.assertEqual(letters_read(X), 1)
        self.assertEqual(letters_read(unchanged("abx")), 0)
        self.assertEqual(letters_read(joined(X, X)), 2)
        self.assertIsNone(letters_read(Reader("a", (("reads", "a", 0),))))
        self.assertEqual(letters_read(reader=Reader("a", (("reads", None, 0),))), 0)
        self.assertEqual(letters_read(Reader("a", (("stops", ""), ("reads", "a", 1)))), 0)
        self.assertEqual(letters_read(Reader("a", (("reads", "", 1), ("stops", "a")))), 0)

    def test_unchanged(self):
        self.assertEqual(unchanged(letters="ab").nodes, (("stops", ""),))
        self.assertEqual(unchanged("ab").made("abba"), "abba")

    def test_alike(self):
        self.assertTrue(are_alike(X, X))
        self.assertFalse(are_alike(X, joined(X, X)))
        self.assertTrue(are_alike(Reader("a", (("reads", None, 0),)), Reader("a", (("none",),))))

    def test_other_letters(self):
        for call in (joined, are_alike):
            with self.assertRaises(OtherLetters):
                call(X, unchanged("ab"))

    def test_limits(self):
        random = seeded(8)
        one = some_reader(random, "abc", 12, 6)
        other = some_reader(random, "abc", 12, 6)
        found = joined(one, other)
        for _ in range(50):
            web = some_web(random, "abc", 60)
            made = one.made(web)
            self.assertEqual(found.made(web), None if made is None else other.made(made))
        chain = Reader("ab", tuple(("reads", "a" * 200, k + 1, k + 1) for k in range(49)) + (("stops", "b" * 200),))
        wide = Reader("ab", tuple(("reads", None, k + 1, (k + 7) % 40) for k in range(39)) + (("stops", "ab" * 100),))
        self.assertEqual(joined(chain, wide).made("a" * 60), wide.made(chain.made("a" * 60)))
        lengths = [letters_read(chain), len(chain.least())]
        self.assertEqual(lengths, [49, 50])
