"""Readers that can be read back: no two webs are left as one, so there is a reader that does the opposite."""

from millhands.books import is_web
from millhands.errors import Merged
from millhands.helpers import is_paper
from millhands.ledsets import domain
from millhands.readers import Reader, least_nodes
from millhands.tellers import first_web


class Leavings:
    """What a reader leaves: for each way to a node that stops, or to the end of a web, the word that it makes.

    stops and bares are lists of pairs of a word and the web that is read on the way. merged has
    two webs that are left as one where two ways lead to one node; then no further ways are gone.
    """

    def __init__(self, reader):
        self.letters = reader.letters
        self.nodes = reader.least().nodes
        self.stops = []
        self.bares = []
        self.merged = None
        ways = {0: ""}
        queue = [0]
        while queue and self.merged is None:
            at = queue.pop()
            self.note(self.nodes[at], ways[at])
            for letter, to in zip(self.letters, self.nodes[at][2:]):
                way = letter + ways[at]
                if to in ways and self.nodes[to] != ("none",):
                    rest = self.fitting_from(to)
                    self.merged = (rest + ways[to], rest + way)
                elif to not in ways:
                    ways[to] = way
                    queue.append(to)
        if self.merged is None:
            self.merged = self.merged_words()

    def note(self, node, way):
        if node[0] == "stops":
            self.stops.append((node[1], way))
        elif node[0] == "reads" and node[1] is not None:
            self.bares.append((node[1], way))

    def fitting_from(self, at):
        """The first web that fits a node."""
        nodes, _ = least_nodes(self.letters, self.nodes, (at,))
        return first_web(domain(Reader(self.letters, nodes)))

    def merged_words(self):
        """Two webs that are left as one because a word stands as the end of another one; None if none does."""
        stops = dict(self.stops)
        bares = dict(self.bares)
        for word, web in self.stops + self.bares:
            for start in range(len(word) + 1):
                further = stops.get(word[start:])
                if further is not None and word[:start] + further != web:
                    return word[:start] + further, web
        for word, web in self.bares:
            if bares[word] != web:
                return bares[word], web
        return None

    def opposite(self):
        """The least reader that makes of what is left the web that it was."""
        stops = dict(self.stops)
        bares = dict(self.bares)
        ends = {"": 0}
        for word in [*stops, *bares]:
            for start in reversed(range(len(word))):
                ends.setdefault(word[start:], len(ends))
        nodes = []
        for end in ends:
            numbers = [ends.get(letter + end, len(ends)) for letter in self.letters]
            nodes.append(("stops", stops[end]) if end in stops else ("reads", bares.get(end), *numbers))
        return Reader(self.letters, (*nodes, ("none",))).least()


def is_one_one(reader):
    """Whether no two webs that fit a reader are left as one web."""
    return Leavings(reader).merged is None


def opposite(reader):
    """The least reader that fits what a one-one reader leaves, and makes of it the web that it was."""
    leavings = Leavings(reader)
    if leavings.merged is not None:
        raise Merged(leavings.merged[0], leavings.merged[1])
    return leavings.opposite()


def judge_one_one(reader):
    """Any paper with the opposite of a reader, or with two webs that it leaves as one."""
    leavings = Leavings(reader)
    return ("opposite", leavings.opposite()) if leavings.merged is None else ("merged", *leavings.merged)


def one_one_holds(reader, thing):
    """Whether any value is a paper that a reader is one-one, or that it is not."""
    if is_paper(thing, "merged", 3):
        return are_merged(reader, thing[1], thing[2])
    if not is_paper(thing, "opposite", 2) or not isinstance(thing[1], Reader) or thing[1].letters != reader.letters:
        return False
    leavings = Leavings(reader)
    return leavings.merged is None and thing[1].least() == leavings.opposite()


def are_merged(reader, web, further):
    """Whether two values are unlike webs that a reader fits and leaves as one web."""
    if not is_web(reader.letters, web) or not is_web(reader.letters, further) or web == further:
        return False
    left = reader.made(web)
    return left is not None and left == reader.made(further)
