"""Tellers, which say a value of each web, and end sets, which say whether a web is one of theirs."""

from millhands.books import check_web, is_web
from millhands.errors import BadTeller, TooMany
from millhands.helpers import (are_same, check_same_letters, explored, first_said, first_webs, found_of, has_head,
                               is_ascending, is_below, is_paper, is_reading, met_from, nexts_of, nodes_read,
                               numbers_read, refined, walked, wrong_part)


class Teller:
    """What is said of each web, told by nodes from node 0 on."""

    def __init__(self, letters, nodes):
        part = wrong_part(letters, nodes, is_teller_node)
        if part is not None:
            raise BadTeller(part)
        self.letters = letters
        self.nodes = nodes

    def __len__(self):
        return len(self.nodes)

    def __eq__(self, other):
        return isinstance(other, Teller) and self.letters == other.letters and are_same(self.nodes, other.nodes)

    def says(self, web):
        """The value that is said of a web."""
        check_web(self.letters, web)
        return said_from(self.letters, self.nodes, 0, web)

    def least(self):
        """The least teller that says the same of each web."""
        return Teller(self.letters, least_told(self.letters, self.nodes))

    def is_least(self):
        return self == self.least()


def is_value(thing):
    """Whether any value is one that a teller can say."""
    stack = [thing] if isinstance(thing, (str, bool, tuple)) else [None]
    while stack:
        part = stack.pop()
        if isinstance(part, tuple):
            stack.extend(list(part))
        elif not isinstance(part, (str, int)):
            return False
    return True


def value_key(value):
    """A string that two values share only if they are the same, part by part."""
    words = []
    stack = [value]
    while stack:
        part = stack.pop()
        if isinstance(part, tuple):
            words.append(f"({len(part)}")
            stack.extend(list(part))
        elif isinstance(part, str):
            words.append(f"{len(part)}:{part}")
        else:
            words.append(f"={part}")
    return " ".join(words)


def is_teller_node(letters, node, many):
    """Whether any value is a node of a teller with so many nodes."""
    if not has_head(node) or len(node) < 2 or not is_value(node[1]):
        return False
    return is_reading(letters, node, many) or (node[0] == "says" and len(node) == 2)


def said_from(letters, nodes, start, web):
    """What a node says of what is known to be a web."""
    at, _ = walked(letters, nodes, start, web)
    return nodes[at][1]


def nexts_at(letters, nodes, at):
    """The nodes that stand for each letter: one that only says stands for each letter itself."""
    return nexts_of(nodes[at]) or tuple([at for _ in letters])


def least_told(letters, nodes):
    """The least nodes that say the same as these."""
    nexts = [nexts_at(letters, nodes, at) for at in range(len(nodes))]
    classes = refined([value_key(node[1]) for node in nodes], nexts)
    order, numbers = met_from((0,), classes, nexts)
    least = []
    for at in order:
        row = tuple([numbers[classes[to]] for to in nexts[at]])
        lone = all([classes[to] == classes[at] for to in nexts[at]])
        least.append(("says", nodes[at][1]) if lone else ("reads", nodes[at][1], *row))
    return tuple(least)


def told(letters, start, look, most=None):
    """The least teller of the machine that begins with a state; look and most as explored tells."""
    teller = Teller(letters, least_told(letters, explored(start, look, most)))
    if most is not None and len(teller) > most:
        raise TooMany(most)
    return teller


def is_end_set(thing):
    """Whether any value is a teller all of whose values are bools."""
    return isinstance(thing, Teller) and all([isinstance(node[1], bool) for node in thing.nodes])


def ends_text(ends):
    """The text of an end set."""
    lines = [f"ends {ends.letters}"]
    for node in ends.nodes:
        words = [node[0], "yes" if node[1] else "no"]
        words.extend([str(number) for number in node[2:]])
        lines.append(" ".join(words))
    return "\n".join(lines)


def ends_read(text):
    """The end set with this text."""
    letters, nodes = nodes_read("ends", text, ends_node_read)
    return Teller(letters, nodes)


def ends_node_read(letters, line, many):
    """The node of an end set that a line tells, None if it tells none."""
    words = line.split(" ")
    if len(words) < 2 or words[1] not in ("yes", "no"):
        return None
    numbers = numbers_read(words[2:], many)
    node = None if numbers is None else (words[0], words[1] == "yes", *numbers)
    return node if is_teller_node(letters, node, many) else None


def all_webs(letters):
    """The end set of all webs."""
    return Teller(letters, (("says", True),))


def no_webs(letters):
    """The end set without webs."""
    return Teller(letters, (("says", False),))


def spelled(letters, web, whole):
    """The least end set of a machine that reads a web from its end; whole is its look where all of it was read.

    A state is the number of letters of the web that are left to read, -1 behind any other letter.
    """

    def look(left):
        if left == 0:
            return whole
        if left < 0:
            return False, None
        return False, tuple([left - 1 if letter == web[left - 1] else -1 for letter in letters])

    return told(letters, len(web), look)


def lone_web(letters, web):
    """The end set of one web alone."""
    nowhere = tuple([-1 for _ in letters])
    return spelled(letters, web, (True, nowhere))


def ending(letters, end):
    """The end set of all webs that end with a web."""
    return spelled(letters, end, (True, None))


def pairs_said(one, other, truth):
    """The look of a machine that goes through both end sets at once, and says what truth tells of both."""

    def look(pair):
        left, right = pair
        value = truth(one.nodes[left][1], other.nodes[right][1])
        if one.nodes[left][0] == "says" and other.nodes[right][0] == "says":
            return value, None
        return value, next_pairs(one, other, pair)

    return look


def combined(one, other, truth):
    """The least end set of the webs for which truth holds of what the one and the other say."""
    check_same_letters(one.letters, [other.letters])
    return told(one.letters, (0, 0), pairs_said(one, other, truth))


def first_where(one, other, truth):
    """The first web for which truth holds of what the one and the other say, None if there is none."""
    check_same_letters(one.letters, [other.letters])
    return first_said(one.letters, (0, 0), pairs_said(one, other, truth))


def next_pairs(one, other, pair):
    """The pairs of nodes that stand for each letter behind a pair of nodes."""
    nexts = nexts_at(one.letters, one.nodes, pair[0])
    further = nexts_at(one.letters, other.nodes, pair[1])
    return tuple(zip(nexts, further))


def both(one, other):
    """The webs that are in both end sets."""
    return combined(one, other, lambda left, right: left and right)


def either(one, other):
    """The webs that are in the one end set or in the other."""
    return combined(one, other, lambda left, right: left or right)


def but_not(one, other):
    """The webs of the one end set that are not in the other."""
    return combined(one, other, lambda left, right: left and not right)


def first_beyond(one, other):
    """The first web of the one end set that is not in the other, None if there is none."""
    return first_where(one, other, lambda left, right: left and not right)


def are_apart(one, other):
    """Whether no web is in both end sets."""
    return first_where(one, other, lambda left, right: left and right) is None


def is_empty(ends):
    return first_web(ends) is None


def is_within(one, other):
    """Whether each web of the one end set is one of the other."""
    return first_beyond(one, other) is None


def side_by_side(tellers):
    """The nodes of some tellers in classes that say the same: that of each start, the next ones, the values."""
    starts = []
    nexts = []
    values = []
    for teller in tellers:
        many = len(nexts)
        starts.append(many)
        for at, node in enumerate(teller.nodes):
            nexts.append(tuple([to + many for to in nexts_at(teller.letters, teller.nodes, at)]))
            values.append(node[1])
    classes = refined(values, nexts)
    rows = {classes[at]: tuple([classes[to] for to in row]) for at, row in enumerate(nexts)}
    return [classes[start] for start in starts], rows, dict(list(zip(classes, values)))


def is_covered(ends, parts):
    """Whether each web of an end set is in one or more of some others.

    Few of the others mostly do: only those that have the first web that is left are taken away.
    """
    rest = ends
    web = first_web(rest)
    while web is not None:
        part = next((held for held in parts if held.says(web)), None)
        if part is None:
            return False
        rest = but_not(rest, part)
        if len(rest) > 1000:
            return is_covered_at_once(rest, parts)
        web = first_web(rest)
    return True


def is_covered_at_once(ends, parts):
    """As is_covered, for what is great: all webs are gone through until one is in none of the parts.

    A state has the class of the node of the end set, and those of the nodes of the others.
    """
    starts, rows, values = side_by_side([ends, *parts])
    lone = {at: values[at] for at, row in rows.items() if all([to == at for to in row])}
    met = {}
    stack = [(starts[0], sorted(set(starts[1:])))]
    while stack:
        asked, others = stack.pop()
        state = (asked, *others)
        # What is asked about has no web any more, or all of its webs are in one of the others.
        if state in met or not lone.get(asked, True) or asked in others or any([lone.get(at) for at in others]):
            continue
        met[state] = True
        if values[asked] and not any([values[at] for at in others]):
            return False
        for number, further in enumerate(rows[asked]):
            behind = [rows[at][number] for at in others]
            stack.append((further, sorted(set([at for at in behind if lone.get(at, True)]))))
    return True


def first_web(ends):
    """The first web of an end set, None if there is none."""
    webs = first_webs(ends.letters, [nexts_of(node) for node in ends.nodes])
    found = [(len(web), web) for at, web in webs.items() if ends.nodes[at][1]]
    return min(found)[1] if found else None


def many_webs(ends, length):
    """How many webs of an end set have so many letters."""
    counts = [1 if node[1] else 0 for node in ends.nodes]
    nexts = [nexts_at(ends.letters, ends.nodes, at) for at in range(len(ends.nodes))]
    for _ in range(length):
        counts = [sum([counts[to] for to in row]) for row in nexts]
    return counts[0]


def longest(ends):
    """How many letters the longest webs of an end set have, -1 without webs, None if there are ever longer ones."""
    nodes = ends.least().nodes
    return found_of(len(nodes), lambda at, known: longest_from(nodes[at], known)).get(0)


def longest_from(node, known):
    """How many letters the longest webs of a node have, None as long as this is not told by what is known.

    It never is where a node of a least end set says True of each web, or leads into a ring.
    """
    if node == ("says", True) or not all([to in known for to in nexts_of(node)]):
        return None
    behind = [known[to] + 1 for to in nexts_of(node) if known[to] >= 0]
    return max([0 if node[1] else -1, *behind])


def judge_within(one, other):
    """Any paper that the one end set is within the other, or the first web that is beyond."""
    web = first_beyond(one, other)
    if web is not None:
        return ("beyond", web)
    pairs = {(0, 0): True}
    queue = [(0, 0)]
    while queue:
        last = queue.pop()
        for pair in next_pairs(one, other, last):
            if pair not in pairs:
                pairs[pair] = True
                queue.append(pair)
    return ("within", tuple(sorted(pairs)))


def within_holds(one, other, thing):
    """Whether any value is a paper that the one end set is within the other, or beyond it."""
    check_same_letters(one.letters, [other.letters])
    if is_paper(thing, "beyond", 2):
        return is_web(one.letters, thing[1]) and one.says(thing[1]) and not other.says(thing[1])
    if not is_paper(thing, "within", 2) or not isinstance(thing[1], tuple):
        return False
    if not all([is_node_pair(one, other, pair) for pair in thing[1]]) or not is_ascending(thing[1]):
        return False
    pairs = {pair: True for pair in thing[1]}
    return (0, 0) in pairs and all([is_pair_within(one, other, pair, pairs) for pair in thing[1]])


def is_node_pair(one, other, thing):
    if not isinstance(thing, tuple) or len(thing) != 2:
        return False
    return is_below(thing[0], len(one.nodes)) and is_below(thing[1], len(other.nodes))


def is_pair_within(one, other, pair, pairs):
    """Whether a pair does not part the two end sets, and the next ones are among the pairs."""
    if one.nodes[pair[0]][1] and not other.nodes[pair[1]][1]:
        return False
    return all([further in pairs for further in next_pairs(one, other, pair)])
