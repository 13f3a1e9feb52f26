"""Readers: they read a web from its end, stop, and put a word in the place of what they read."""

from millhands.books import check_web, is_web
from millhands.errors import BadReader
from millhands.helpers import (check_same_letters, found_of, has_head, is_reading, met_from, nexts_of, nodes_read,
                               numbers_read, refined, walked, wrong_part)


class Reader:
    """What is made of each web, told by nodes from node 0 on."""

    def __init__(self, letters, nodes):
        part = wrong_part(letters, nodes, is_reader_node)
        if part is not None:
            raise BadReader(part)
        self.letters = letters
        self.nodes = nodes

    def __len__(self):
        return len(self.nodes)

    def __eq__(self, other):
        return isinstance(other, Reader) and self.letters == other.letters and self.nodes == other.nodes

    def __str__(self):
        lines = [node_line(node) for node in self.nodes]
        return "\n".join([f"reader {self.letters}", *lines])

    @classmethod
    def read(cls, text):
        """The reader with this text."""
        letters, nodes = nodes_read("reader", text, node_read)
        return cls(letters, nodes)

    def made(self, web):
        """What the reader makes of a web, None if nothing."""
        check_web(self.letters, web)
        return made_by(self.letters, self.nodes, web)

    def read_of(self, web):
        """How many letters of a web are read until a node does not read."""
        check_web(self.letters, web)
        _, left = walked(self.letters, self.nodes, 0, web)
        return len(web) - left

    def least(self):
        """The least reader that is alike."""
        nodes, _ = least_nodes(self.letters, self.nodes, (0,))
        return Reader(self.letters, nodes)

    def is_least(self):
        return self == self.least()


def is_reader_node(letters, node, many):
    """Whether any value is a node of a reader with so many nodes."""
    if not has_head(node):
        return False
    if node[0] == "stops":
        return len(node) == 2 and is_web(letters, node[1])
    if node[0] == "none":
        return len(node) == 1
    return is_reading(letters, node, many) and (node[1] is None or is_web(letters, node[1]))


def node_line(node):
    """The line of a node in a text."""
    if node[0] == "none":
        return "none"
    if node[0] == "stops":
        return f"stops {node[1] or '-'}"
    words = ["reads", "!" if node[1] is None else node[1] or "-"]
    words.extend([str(number) for number in node[2:]])
    return " ".join(words)


def node_read(letters, line, many):
    """The node that a line tells, None if it tells none."""
    words = line.split(" ")
    if words == ["none"]:
        return ("none",)
    if len(words) < 2 or words[1] == "":
        return None
    told = "" if words[1] == "-" else words[1]
    if words[0] == "stops":
        node = ("stops", told) if len(words) == 2 else None
    else:
        numbers = numbers_read(words[2:], many)
        node = None if numbers is None else (words[0], None if told == "!" else told, *numbers)
    return node if is_reader_node(letters, node, many) else None


def made_by(letters, nodes, web):
    """What the nodes make of what is known to be a web, None if nothing."""
    at, left = walked(letters, nodes, 0, web)
    node = nodes[at]
    if node[0] == "stops":
        return web[:left] + node[1]
    # Whatever still reads has read the whole web.
    return node[1] if node[0] == "reads" else None


def stop_words(letters, nodes):
    """For each node that makes u + m of each web u the word m.

    Each letter that is read makes the word longer, so such nodes are in no ring: they are told
    by those that stop.
    """
    return found_of(len(nodes), lambda at, words: nodes[at][1] if is_stopping(letters, nodes[at], words) else None)


def is_stopping(letters, node, words):
    """Whether a node does what one that stops does, as far as words tells it of the next ones."""
    if node[0] == "stops":
        return True
    if node[0] == "none" or node[1] is None:
        return False
    return all([words.get(to) == letter + node[1] for letter, to in zip(letters, node[2:])])


def useful_nodes(nodes):
    """The nodes that make something of some web, as a dict."""
    return found_of(len(nodes), lambda at, useful: True if is_useful(nodes[at], useful) else None)


def is_useful(node, useful):
    if node[0] == "none":
        return False
    return node[0] == "stops" or node[1] is not None or any([to in useful for to in node[2:]])


def plain_node(at, node, words, useful):
    """A node that makes the same, without numbers wherever these are not needed."""
    if at not in useful:
        return ("none",)
    return ("stops", words[at]) if at in words else node


def least_nodes(letters, nodes, starts):
    """The least nodes that make what the starts make, numbered as they are met, and the numbers of the starts."""
    words = stop_words(letters, nodes)
    useful = useful_nodes(nodes)
    plain = [plain_node(at, node, words, useful) for at, node in enumerate(nodes)]
    nexts = [nexts_of(node) for node in plain]
    classes = refined([node[:2] for node in plain], nexts)
    order, numbers = met_from(starts, classes, nexts)
    least = [plain[at][:2] + tuple([numbers[classes[to]] for to in nexts[at]]) for at in order]
    return tuple(least), tuple([numbers[classes[start]] for start in starts])


def unchanged(letters):
    """The reader that leaves each web as it is."""
    return Reader(letters, (("stops", ""),))


def joined(one, other):
    """The least reader that makes of a web what the other makes of what the one makes."""
    check_same_letters(one.letters, [other.letters])
    nodes = [joined_node(node, other, len(one.nodes)) for node in one.nodes]
    nodes.extend([shifted(node, len(one.nodes)) for node in other.nodes])
    return Reader(one.letters, tuple(nodes)).least()


def joined_node(node, other, many):
    """The node that makes what the other reader makes of what a node of the first one makes."""
    if node[0] == "none":
        return node
    if node[0] == "reads":
        bare = None if node[1] is None else made_by(other.letters, other.nodes, node[1])
        return ("reads", bare, *node[2:])
    at, left = walked(other.letters, other.nodes, 0, node[1])
    if other.nodes[at][0] == "stops":
        return ("stops", node[1][:left] + other.nodes[at][1])
    return shifted(other.nodes[at], many)


def shifted(node, many):
    """A node with all of its numbers greater by many."""
    if node[0] != "reads":
        return node
    numbers = [number + many for number in node[2:]]
    return ("reads", node[1], *numbers)


def letters_read(reader):
    """How many letters the least reader reads at most, None if it has a ring."""
    return longest_way(reader.least().nodes)


def longest_way(nodes):
    """How many nodes that read the longest way has, None if numbers lead from some node to itself."""
    lengths = found_of(len(nodes), lambda at, known: way_from(nexts_of(nodes[at]), known))
    return max(list(lengths.values())) if len(lengths) == len(nodes) else None


def way_from(nexts, known):
    """How many nodes that read the longest way has from a node on, None if not all next ones are known."""
    if not all([to in known for to in nexts]):
        return None
    return 1 + max([known[to] for to in nexts]) if nexts else 0


def are_alike(one, other):
    check_same_letters(one.letters, [other.letters])
    return one.least() == other.least()
