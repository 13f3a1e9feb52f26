"""What several files of the package need: forms of values, and machines that read from the end."""

from millhands.errors import BadText, OtherLetters, TooMany

ALPHABET = "abcdefghijklmnopqrstuvwxyz"
DIGITS = "0123456789"
MOST_FIGURES = 4300


def is_letters(thing):
    """Whether any value is an ascending string of one or more letters a to z."""
    if not isinstance(thing, str) or thing == "":
        return False
    return is_ascending(thing) and all([letter in ALPHABET for letter in thing])


def is_letter(letters, thing):
    return isinstance(thing, str) and len(thing) == 1 and thing in letters


def is_word(letters, thing):
    """Whether any value is a string of some letters, perhaps empty."""
    return isinstance(thing, str) and all([letter in letters for letter in thing])


def is_number(thing):
    return isinstance(thing, int) and not isinstance(thing, bool)


def is_below(thing, many):
    """Whether any value is an integer from 0 on that is less than many."""
    return is_number(thing) and 0 <= thing < many


def is_ascending(parts):
    """Whether parts of one kind stand in order, none of them twice."""
    return all([parts[k] < parts[k + 1] for k in range(len(parts) - 1)])


def is_paper(thing, word, many):
    """Whether any value is a tuple of so many parts that begins with a word."""
    return isinstance(thing, tuple) and len(thing) == many and isinstance(thing[0], str) and thing[0] == word


def are_same(one, other):
    """Whether two values are equal and of one kind, part by part: True is not 1, a list is no tuple."""
    stack = [(one, other)]
    while stack:
        left, right = stack.pop()
        if isinstance(left, tuple) and isinstance(right, tuple):
            if len(left) != len(right):
                return False
            stack.extend(list(zip(left, right)))
        elif isinstance(left, bool) != isinstance(right, bool) or left != right:
            return False
    return True


def check_same_letters(letters, others):
    """The letters that go into one call; all of others have to be like the first ones."""
    if any([other != letters for other in others]):
        raise OtherLetters()


def integer_read(text):
    """The integer from 0 on that Python writes as this text, None if there is none."""
    if text == "" or any([figure not in DIGITS for figure in text]) or (text[0] == "0" and text != "0"):
        return None
    # Python writes no integers with more figures.
    return int(text) if len(text) <= MOST_FIGURES else None


def number_read(text, many):
    """The number below many that Python writes as this text, None if there is none."""
    # No number of a node has so many figures: none has to be made of them.
    number = integer_read(text) if len(text) <= 12 else None
    return number if number is not None and number < many else None


def numbers_read(words, many):
    """The tuple of the numbers below many that the words are, None if one of them is none."""
    numbers = tuple([number_read(word, many) for word in words])
    return None if None in numbers else numbers


def text_parts(word, text):
    """The letters that the first line of a text tells behind a word, and the list of its further lines."""
    if not isinstance(text, str):
        raise BadText(0)
    lines = text.split("\n")
    words = lines[0].split(" ")
    if len(words) != 2 or words[0] != word or not is_letters(words[1]):
        raise BadText(1)
    return words[1], lines[1:]


def nodes_read(word, text, node_of, most=None):
    """The letters and the nodes, at most most of them, that a text tells.

    node_of tells the node of a line, None if it tells none.
    """
    letters, lines = text_parts(word, text)
    if not lines:
        raise BadText(2)
    nodes = []
    for line in lines:
        nodes.append(None if len(nodes) == most else node_of(letters, line, len(lines)))
        if nodes[-1] is None:
            raise BadText(len(nodes) + 1)
    return letters, tuple(nodes)


def nexts_of(node):
    """The numbers that a node names: only one that reads names some."""
    return node[2:] if node[0] == "reads" else ()


def is_reading(letters, node, many):
    """Whether a tuple, but for what it tells of the bare web, is a node that reads."""
    if len(node) != len(letters) + 2 or node[0] != "reads":
        return False
    return all([is_below(number, many) for number in node[2:]])


def has_head(thing):
    """Whether any value is a tuple that begins with a string, as each node does."""
    return isinstance(thing, tuple) and len(thing) > 0 and isinstance(thing[0], str)


def wrong_part(letters, nodes, is_node, word="nodes", most=None):
    """The part of two values that keeps them from being letters and nodes, None if nothing does.

    word is what the nodes are called; there may be a number that they are at most.
    """
    if not is_letters(letters):
        return "letters"
    if not isinstance(nodes, tuple) or nodes == () or (most is not None and len(nodes) > most):
        return word
    for number, node in enumerate(nodes):
        if not is_node(letters, node, len(nodes)):
            return number
    return None


def walked(letters, nodes, start, web):
    """The node to which a web, read from its end, leads from a node, and how many letters are left unread."""
    at = start
    left = len(web)
    while left > 0 and nodes[at][0] == "reads":
        left -= 1
        at = nodes[at][2 + letters.index(web[left])]
    return at, left


def found_of(many, find):
    """What is found of each number below many, as a dict.

    find is asked with a number and what is found already, from the greatest number on, again
    and again; it tells None as long as it finds nothing.
    """
    found = {}
    changed = True
    while changed:
        changed = False
        for at in reversed(range(many)):
            value = None if at in found else find(at, found)
            if value is not None:
                found[at] = value
                changed = True
    return found


def first_webs(letters, nexts):
    """For each node that is met from node 0 on the first web that leads to it."""
    found = {0: ""}
    level = {0: ""}
    while level:
        fresh = {}
        for node, web in level.items():
            for letter, to in zip(letters, nexts[node]):
                # The letter that is read last stands first: of one length it decides.
                if to not in found and (to not in fresh or letter + web < fresh[to]):
                    fresh[to] = letter + web
        found.update(fresh)
        level = fresh
    return found


def first_said(letters, start, look):
    """The first web of which the machine that begins with a state says True, None if there is none.

    look as explored tells. Of each state the first web that leads to it is enough.
    """
    met = {start: True}
    level = {start: ""}
    while level:
        found = []
        fresh = {}
        for state, web in level.items():
            value, nexts = look(state)
            if value:
                found.append(web)
            for letter, to in zip(letters, nexts or ()):
                if to not in met and (to not in fresh or letter + web < fresh[to]):
                    fresh[to] = letter + web
        if found:
            return min(found)
        for state in fresh:
            met[state] = True
        level = fresh
    return None


def met_from(starts, classes, nexts):
    """One node of each class, as the classes are met from the starts on, and the number of each class."""
    numbers = {}
    order = []
    for start in starts:
        note_class(start, classes, numbers, order)
    at = 0
    while at < len(order):
        for to in nexts[order[at]]:
            note_class(to, classes, numbers, order)
        at += 1
    return order, numbers


def note_class(node, classes, numbers, order):
    if classes[node] not in numbers:
        numbers[classes[node]] = len(order)
        order.append(node)


def refined(colors, nexts):
    """The coarsest classes such that nodes of one class have one color, and next ones of like classes.

    Only nodes whose next ones have changed their class are looked at again, and the greatest
    part of a class keeps its number: so long chains take few looks.
    """
    numbers = {}
    classes = [numbers.setdefault(color, len(numbers)) for color in colors]
    members = [{} for _ in numbers]
    sources = [[] for _ in classes]
    for node, at in enumerate(classes):
        members[at][node] = True
        for to in nexts[node]:
            sources[to].append(node)
    dirty = list(range(len(classes)))
    while dirty:
        # All splits are told by the classes as they are, before the first node is moved.
        groups = by_class(dirty, classes)
        splits = [(at, split_class(members[at], groups[at], classes, nexts)) for at in groups]
        moved = []
        for at, parts in splits:
            moved.extend(moved_out(parts, at, classes, members))
        dirty = sources_of(moved, sources)
    return classes


def by_class(nodes, classes):
    groups = {}
    for node in nodes:
        groups.setdefault(classes[node], []).append(node)
    return groups


def sources_of(nodes, sources):
    """The nodes that name some of these, each once."""
    found = {}
    for node in nodes:
        for source in sources[node]:
            found[source] = True
    return list(found)


def split_class(members, dirty, classes, nexts):
    """The parts of a class that have to leave it: all but the greatest one.

    Members that are not dirty have one row of next classes; they are gone through only where
    they are fewer than the part that keeps the number of the class.
    """
    groups = {}
    for node in dirty:
        groups.setdefault(class_row(node, classes, nexts), []).append(node)
    clean = len(members) - len(dirty)
    if clean:
        known = {node: True for node in dirty}
        row = class_row(next((node for node in members if node not in known), None), classes, nexts)
        greatest = max([len(group) for group in groups.values()])
        if clean >= greatest:
            return [group for key, group in groups.items() if key != row]
        groups.setdefault(row, []).extend([node for node in members if node not in known])
    parts = sorted(list(groups.values()), key=len)
    return parts[:-1]


def class_row(node, classes, nexts):
    return tuple([classes[to] for to in nexts[node]])


def moved_out(parts, at, classes, members):
    """Gives each part a class of its own; all nodes that were moved."""
    moved = []
    for part in parts:
        members.append({})
        for node in part:
            del members[at][node]
            members[-1][node] = True
            classes[node] = len(members) - 1
        moved.extend(part)
    return moved


def explored(start, look, most=None):
    """The nodes of the machine that begins with a state.

    look tells of a state what its node bears, and the tuple of the states that come next, or
    None where whatever is read changes nothing. With most, TooMany is raised as soon as the
    nodes found so far show that the least machine has more nodes than that.
    """
    numbers = {start: 0}
    states = [start]
    nodes = []
    check_at = None if most is None else 4 * most + 64
    while len(nodes) < len(states):
        value, nexts = look(states[len(nodes)])
        if nexts is None:
            nodes.append(("says", value))
            continue
        for state in nexts:
            if state not in numbers:
                numbers[state] = len(states)
                states.append(state)
        places = [numbers[state] for state in nexts]
        nodes.append(("reads", value, *places))
        if len(nodes) == check_at:
            check_at *= 2
            if many_apart(nodes) > most:
                raise TooMany(most)
    return tuple(nodes)


def many_apart(nodes):
    """A number of nodes that short webs tell apart, where not all nodes that are named are known yet.

    The color of a node tells what it says of all webs up to a length that grows; it is None
    from where on this hangs on a node that is not known.
    """
    width = max([len(nexts_of(node)) for node in nodes])
    # A node that only says stands for each letter itself: so it is told like one that reads.
    rows = [nexts_of(node) or (at,) * width for at, node in enumerate(nodes)]
    colors = [node[1] for node in nodes]
    best = 0
    while True:
        numbers = {}
        fresh = [fresh_color(colors[at], row, colors, numbers) for at, row in enumerate(rows)]
        if len(numbers) < best or fresh == colors:
            return best
        best = len(numbers)
        colors = fresh


def fresh_color(color, row, colors, numbers):
    """The color of a node by webs with one letter more; numbers has those that were given."""
    behind = [colors[to] if to < len(colors) else None for to in row]
    key = (color, *behind)
    return None if None in key else numbers.setdefault(key, len(numbers))
