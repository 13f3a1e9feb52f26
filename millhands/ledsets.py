"""End sets that readers lead from and into, and papers about readers that are alike."""

from millhands.books import is_web
from millhands.helpers import are_same, check_same_letters, first_said, is_paper, nexts_of, walked
from millhands.tellers import nexts_at, said_from, told


def domain(reader):
    """The least end set of the webs that fit a reader."""

    def look(at):
        node = reader.nodes[at]
        if node[0] == "reads":
            return node[1] is not None, node[2:]
        return node[0] == "stops", None

    return told(reader.letters, 0, look)


def alike_set(one, other):
    """The least end set of the webs of which two readers make the same, or both nothing."""
    check_same_letters(one.letters, [other.letters])
    left, right = one.least(), other.least()
    return told(one.letters, (side_of(left, 0), side_of(right, 0)), sides_said(left, right, True))


def first_apart(one, other):
    """The first web of which two readers make unlike things, None if they are alike."""
    check_same_letters(one.letters, [other.letters])
    left, right = one.least(), other.least()
    if left == right:
        return None
    return first_said(one.letters, (side_of(left, 0), side_of(right, 0)), sides_said(left, right, False))


def sides_said(left, right, said):
    """The look of a machine by which two least readers read one web; of webs of which they make the same it says said.

    A side of a state is a number of a node, or, where its reader has stopped, the word that
    stands behind what is still unread.
    """
    left_ends = word_ends(left)
    right_ends = word_ends(right)

    def look(state):
        side, further = state
        if are_parted(side, right, further, right_ends) or are_parted(further, left, side, left_ends):
            return not said, None
        value = (made_bare(left, side) == made_bare(right, further)) == said
        if is_done(left, side) and is_done(right, further):
            return value, None
        return value, tuple(zip(next_sides(left, side), next_sides(right, further)))

    return look


def side_of(reader, at):
    """The word of a node that stops, the number of another one."""
    return reader.nodes[at][1] if reader.nodes[at][0] == "stops" else at


def next_sides(reader, side):
    """The sides behind each letter: a word that stands has this letter ahead of it then."""
    if isinstance(side, str):
        return [letter + side for letter in reader.letters]
    return [side_of(reader, to) for to in nexts_at(reader.letters, reader.nodes, side)]


def made_bare(reader, side):
    """What a side makes of the bare web, None if nothing."""
    if isinstance(side, str):
        return side
    return reader.nodes[side][1] if reader.nodes[side][0] == "reads" else None


def is_done(reader, side):
    return isinstance(side, str) or reader.nodes[side][0] == "none"


def word_ends(reader):
    """All ends of the words that a reader makes, as a dict."""
    words = [node[1] for node in reader.nodes if node[0] != "none" and node[1] is not None]
    return {word[start:]: True for word in words for start in range(len(word) + 1)}


def are_parted(side, reader, further, ends):
    """Whether a word stands on one side, and the other one, which reads or makes nothing, never makes it.

    What is read further only makes the standing word longer: where it is no end of a word of
    the other reader any more it never is again.
    """
    if not isinstance(side, str) or isinstance(further, str):
        return False
    return reader.nodes[further][0] == "none" or side not in ends


def led_into(reader, ends):
    """The least end set of the webs that fit and of which a web of the end set is made.

    A state is a number of a node of the end set, or, below 0, one of the reader.
    """
    check_same_letters(reader.letters, [ends.letters])

    def state_of(at):
        node = reader.nodes[at]
        return walked(ends.letters, ends.nodes, 0, node[1])[0] if node[0] == "stops" else -1 - at

    def look(state):
        if state >= 0:
            return ends.nodes[state][1], nexts_of(ends.nodes[state]) or None
        node = reader.nodes[-1 - state]
        if node[0] == "none":
            return False, None
        value = node[1] is not None and said_from(ends.letters, ends.nodes, 0, node[1])
        return value, tuple([state_of(to) for to in node[2:]])

    return told(reader.letters, state_of(0), look)


def made_starts(reader, ends):
    """All pairs of a word and a node of the end set such that u + word is made for each web u of the node.

    The node -1 stands for the bare web alone: a web that was read whole leaves one word.
    """
    starts = {}
    met = {(0, 0): True}
    queue = [(0, 0)]
    while queue:
        at, place = queue.pop()
        node = reader.nodes[at]
        if node[0] == "stops":
            starts[(node[1], place)] = True
        if node[0] != "reads":
            continue
        if node[1] is not None and ends.nodes[place][1]:
            starts[(node[1], -1)] = True
        for pair in zip(node[2:], nexts_at(ends.letters, ends.nodes, place)):
            if pair not in met:
                met[pair] = True
                queue.append(pair)
    return list(starts)


def spread(starts):
    """The tree of all ends of the words of starts: for each of them the nodes that begin behind it."""
    tree = {"": []}
    for word, place in starts:
        for left in reversed(range(len(word))):
            tree.setdefault(word[left:], [])
        tree[word].append(place)
    return tree


def led_from(reader, ends, *, most=400):
    """The least end set of all webs that are made of webs of an end set.

    A state has the end that was read, None if no word ends so, and the nodes of the end set at
    which webs are read that stood ahead of some word.
    """
    check_same_letters(reader.letters, [ends.letters])
    least = ends.least()
    tree = spread(made_starts(reader, least))

    def look(state):
        end, places = state
        value = any([is_said_bare(least, place) for place in places])
        if end is None and all([is_fixed(least, place) for place in places]):
            return value, None
        if any([place >= 0 and least.nodes[place] == ("says", True) for place in places]):
            return True, None
        return value, tuple([led_state(least, tree, state, letter) for letter in least.letters])

    return told(least.letters, ("", kept_places(least, tree[""])), look, most)


def is_said_bare(ends, place):
    return place == -1 or ends.nodes[place][1]


def is_fixed(ends, place):
    return place >= 0 and ends.nodes[place][0] == "says"


def kept_places(ends, places):
    """Places as a part of a state: each once, without those from which no web is read."""
    return tuple(sorted(set([place for place in places if place < 0 or ends.nodes[place] != ("says", False)])))


def led_state(ends, tree, state, letter):
    """The state behind one letter more."""
    end, places = state
    fresh = None if end is None or letter + end not in tree else letter + end
    at = ends.letters.index(letter)
    further = [nexts_at(ends.letters, ends.nodes, place)[at] for place in places if place >= 0]
    if fresh is not None:
        further.extend(tree[fresh])
    return fresh, kept_places(ends, further)


def judge_alike(one, other):
    """A paper with the least nodes of two readers that are alike, or with the first web that parts them."""
    web = first_apart(one, other)
    return ("alike", one.least().nodes) if web is None else ("apart", web)


def alike_holds(one, other, thing):
    """Whether any value is a paper that two readers are alike, or apart."""
    check_same_letters(one.letters, [other.letters])
    if is_paper(thing, "apart", 2):
        return is_web(one.letters, thing[1]) and one.made(thing[1]) != other.made(thing[1])
    if not is_paper(thing, "alike", 2):
        return False
    return are_same(thing[1], one.least().nodes) and are_same(thing[1], other.least().nodes)
