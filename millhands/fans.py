"""Fans: they make of each web several webs, as many as their words tell."""

from millhands.books import check_web, is_web
from millhands.errors import BadFan, TooMany
from millhands.helpers import (check_same_letters, has_head, is_ascending, is_reading, met_from, nexts_of, walked,
                               wrong_part)
from millhands.readers import Reader, least_nodes, longest_way, shifted
from millhands.tellers import first_web, told


class Fan:
    """What webs are made of each web, told by nodes without rings from node 0 on."""

    def __init__(self, letters, nodes):
        part = wrong_part(letters, nodes, is_fan_node)
        if part is not None:
            raise BadFan(part)
        if longest_way(nodes) is None:
            raise BadFan("ring")
        self.letters = letters
        self.nodes = nodes

    def __len__(self):
        return len(self.nodes)

    def __eq__(self, other):
        return isinstance(other, Fan) and self.letters == other.letters and self.nodes == other.nodes

    def made(self, web):
        """The ascending tuple of the webs that are made of a web."""
        check_web(self.letters, web)
        at, left = walked(self.letters, self.nodes, 0, web)
        return tuple([web[:left] + word for word in self.nodes[at][1]])

    def least(self):
        """The least fan that makes the same of each web."""
        return least_fan(self.letters, 0, lambda at: (self.nodes[at][1], nexts_of(self.nodes[at])), None)

    def is_least(self):
        return self == self.least()


def is_fan_node(letters, node, many):
    """Whether any value is a node of a fan with so many nodes, rings not counted."""
    if not has_head(node) or len(node) < 2 or not are_words(letters, node[1]):
        return False
    return is_reading(letters, node, many) or (node[0] == "stops" and len(node) == 2)


def are_words(letters, thing):
    """Whether any value is an ascending tuple of webs."""
    return isinstance(thing, tuple) and all([is_web(letters, word) for word in thing]) and is_ascending(thing)


class FanTable:
    """Nodes of a least fan, each of which is found behind those that it names."""

    def __init__(self, letters, most):
        self.letters = letters
        self.most = most
        self.nodes = []
        self.numbers = {}
        self.reading = 0

    def number_of(self, words, nexts):
        """The number of the node that makes these words of the bare web, and goes on at these numbers."""
        node = self.plain(words, nexts)
        if node not in self.numbers:
            self.numbers[node] = len(self.nodes)
            self.nodes.append(node)
            self.reading += 1 if node[0] == "reads" else 0
        # Each node that reads stays one of the least fan: with too many of them nothing more has to be found.
        if self.most is not None and self.reading > self.most:
            raise TooMany(self.most)
        return self.numbers[node]

    def plain(self, words, nexts):
        """A node that stops, if the words stand behind each web; otherwise one that reads."""
        stops = [("stops", tuple([letter + word for word in words])) for letter in self.letters]
        if not nexts or [self.nodes[to] for to in nexts] == stops:
            return ("stops", words)
        return ("reads", words, *nexts)

    def fan_from(self, start):
        """The fan of all nodes that are met from one on."""
        nexts = [nexts_of(node) for node in self.nodes]
        order, numbers = met_from((start,), list(range(len(nexts))), nexts)
        if self.most is not None and len(order) > self.most:
            raise TooMany(self.most)
        nodes = [self.nodes[at][:2] + tuple([numbers[to] for to in nexts[at]]) for at in order]
        return Fan(self.letters, tuple(nodes))


def least_fan(letters, start, look, most):
    """The least fan of the machine, without rings, that begins with a state; of any size if most is None.

    look tells of a state the words that it makes of the bare web, and the tuple of the states
    that come next, () where it stops.
    """
    table = FanTable(letters, most)
    numbers = {}
    looks = {}
    stack = [start]
    while stack:
        state = stack[-1]
        if state not in looks:
            looks[state] = look(state)
        words, nexts = looks[state]
        unknown = [further for further in nexts if further not in numbers]
        if unknown:
            stack.extend(unknown)
            continue
        stack.pop()
        numbers[state] = table.number_of(words, tuple([numbers[further] for further in nexts]))
    return table.fan_from(numbers[start])


class Gathering:
    """Readers without rings that read one web together.

    A state has the numbers of the nodes that still read, and the words that stand behind what
    is unread, of those that have stopped.
    """

    def __init__(self, letters, readers):
        nodes = []
        starts = []
        for reader in readers:
            starts.append(len(nodes))
            nodes.extend([shifted(node, starts[-1]) for node in reader.nodes])
        self.letters = letters
        self.nodes, self.starts = least_nodes(letters, tuple(nodes), tuple(starts))

    def begun(self, numbers):
        """The state in which the readers with these numbers begin."""
        return self.state_of([self.starts[number] for number in numbers], [])

    def state_of(self, places, words):
        """The state of some nodes, with words that stand already."""
        nodes = [(place, self.nodes[place]) for place in places]
        reading = [place for place, node in nodes if node[0] == "reads"]
        standing = [node[1] for _, node in nodes if node[0] == "stops"]
        return tuple(sorted(set(reading))), tuple(sorted(set(standing + words)))

    def made_bare(self, state):
        """The ascending tuple of all that is made of the bare web."""
        bare = [self.nodes[place][1] for place in state[0]]
        made = [word for word in bare if word is not None]
        return tuple(sorted(set(made + list(state[1]))))

    def nexts(self, state):
        """The states behind each letter, () if none reads."""
        if not state[0]:
            return ()
        return tuple([self.next_at(state, at) for at in range(len(self.letters))])

    def next_at(self, state, at):
        words = [self.letters[at] + word for word in state[1]]
        return self.state_of([self.nodes[place][2 + at] for place in state[0]], words)


def gathered(letters, readers, *, most=400):
    """The least fan that makes of each web all that some readers without rings make of it."""
    check_same_letters(letters, [reader.letters for reader in readers])
    gathering = Gathering(letters, readers)
    start = gathering.begun(list(range(len(readers))))
    return least_fan(letters, start, lambda state: (gathering.made_bare(state), gathering.nexts(state)), most)


def fan_set(fan, truth):
    """The least end set of the webs of which a fan makes words for which truth holds."""
    return told(fan.letters, 0, lambda at: (truth(fan.nodes[at][1]), nexts_of(fan.nodes[at]) or None))


def where_made(fan):
    """The least end set of the webs of which a fan makes one or more."""
    return fan_set(fan, lambda words: len(words) > 0)


def first_forked(fan):
    """The first web of which a fan makes two or more, None if there is none."""
    return first_web(fan_set(fan, lambda words: len(words) > 1))


def only_ones(fan):
    """The least reader that makes what a fan makes, None where this makes two or more of some web."""
    if first_forked(fan) is not None:
        return None
    return Reader(fan.letters, tuple([lone_node(node) for node in fan.nodes])).least()


def lone_node(node):
    """The node of a reader for one of a fan; what it has more than one word of is never met."""
    word = node[1][0] if node[1] else None
    if node[0] == "reads":
        return ("reads", word, *node[2:])
    return ("none",) if word is None else ("stops", word)
