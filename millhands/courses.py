"""Courses: wefts of a shelf done one behind the other, any number of times; what can stand, and what can come."""

from millhands.books import check_web
from millhands.errors import BadCourse
from millhands.helpers import check_same_letters, is_below, nexts_of, walked
from millhands.ledsets import domain
from millhands.tellers import are_apart, longest, nexts_at, said_from
from millhands.ways import BOTTOM, Ways
from millhands.wefts import is_weft, reader_of, run_on


def is_shelf(letters, thing):
    """Whether any value is a shelf: one or more wefts over some letters."""
    return isinstance(thing, tuple) and thing != () and all([is_weft(letters, weft) for weft in thing])


def wrong_place(shelf, thing):
    """The first place of any value that keeps it from being a course, -1 if it is no tuple, None if it is one."""
    if not isinstance(thing, tuple):
        return -1
    return next((place for place, number in enumerate(thing) if not is_below(number, len(shelf))), None)


def led_by(book, shelf, web, course):
    """The web to which a course leads a web, None if it does not go."""
    for number in course:
        web, failed = run_on(book, shelf[number], web)
        if failed is not None:
            return None
    return web


def course_led(book, shelf, web, course):
    """As led_by, for any values."""
    check_web(book.letters, web)
    place = wrong_place(shelf, course)
    if place is not None:
        raise BadCourse(place)
    return led_by(book, shelf, web, course)


def changes_of(book, shelf):
    """All pairs of words that the wefts of a shelf exchange, as triples of a weft's number, what goes, what comes.

    Words are written as they are read, from the end of a web on. Both end with "-", where the
    web is read whole; otherwise any rest stands behind both.
    """
    changes = []
    for number, weft in enumerate(shelf):
        nodes = reader_of(book, weft).nodes
        stack = [(0, "")]
        while stack:
            at, way = stack.pop()
            node = nodes[at]
            if node[0] == "stops":
                changes.append((number, way, node[1][::-1]))
            elif node[0] == "reads" and node[1] is not None:
                changes.append((number, way + BOTTOM, node[1][::-1] + BOTTOM))
            stack.extend([(to, way + letter) for letter, to in zip(book.letters, nexts_of(node))])
    return changes


def lasting_changes(book, shelf):
    """As changes_of, with a letter of the rest behind both words where one of them is empty."""
    found = []
    for number, gone, come in changes_of(book, shelf):
        behind = [""] if gone and come else [*book.letters, BOTTOM]
        found.extend([(number, gone + letter, come + letter) for letter in behind])
    return found


def standing_ways(book, shelf, start):
    """The machine that reads the webs that can stand from an end set."""
    return Ways(start, lasting_changes(book, shelf))


def coming_ways(book, shelf, goal):
    """The machine that reads the webs that can come to an end set."""
    return Ways(goal, [(number, come, gone) for number, gone, come in lasting_changes(book, shelf)])


def standing(book, shelf, start, *, most=400):
    """The least end set of the webs that can stand from an end set."""
    check_same_letters(book.letters, [start.letters])
    return standing_ways(book, shelf, start).least_ends(most)


def coming(book, shelf, goal, *, most=400):
    """The least end set of the webs that can come to an end set."""
    check_same_letters(book.letters, [goal.letters])
    return coming_ways(book, shelf, goal).least_ends(most)


def all_standing(book, shelf, start):
    """As standing, however many nodes it has."""
    return standing(book, shelf, start, most=None)


def all_coming(book, shelf, goal):
    """As coming, however many nodes it has."""
    return coming(book, shelf, goal, most=None)


def fewest_wefts(book, shelf, start, goal):
    """The fewest wefts of a course from an end set to another one, None if no course leads there."""
    check_same_letters(book.letters, [start.letters, goal.letters])
    found = coming_ways(book, shelf, goal).lightest(start)
    return None if found is None else found[0]


def is_closed(book, shelf, ends):
    """Whether each weft of a shelf leaves webs of an end set alone of webs of this set.

    Where a weft reads one word and leaves another one, each rest that stands behind the first one
    in the end set has to stand there behind the second one.
    """
    check_same_letters(book.letters, [ends.letters])
    pairs = {}
    stack = []
    for _, gone, come in changes_of(book, shelf):
        if gone.endswith(BOTTOM):
            if said_of(ends, gone) and not said_of(ends, come):
                return False
        else:
            stack.append((node_behind(ends, gone), node_behind(ends, come)))
    while stack:
        pair = stack.pop()
        if pair in pairs or pair[0] == pair[1]:
            continue
        pairs[pair] = True
        if ends.nodes[pair[0]][1] and not ends.nodes[pair[1]][1]:
            return False
        left, right = [nexts_at(ends.letters, ends.nodes, at) for at in pair]
        stack.extend(list(zip(left, right)))
    return True


def node_behind(ends, word):
    """The node of an end set behind a word that is read from the end of a web on."""
    return walked(ends.letters, ends.nodes, 0, word[::-1])[0]


def said_of(ends, word):
    """Whether an end set has the web that is read as a word with its bottom."""
    return said_from(ends.letters, ends.nodes, 0, word[:-1][::-1])


def longest_standing(book, shelf, start):
    """How many letters the longest webs have that can stand, -1 without any, None if there are ever longer ones."""
    return longest(all_standing(book, shelf, start))


def idle_wefts(book, shelf, start):
    """The ascending tuple of the numbers of the wefts that fit no web that can stand."""
    stands = all_standing(book, shelf, start)
    return tuple([number for number, weft in enumerate(shelf) if are_apart(stands, domain(reader_of(book, weft)))])


def sights(book, shelf, start):
    """The ascending tuple of the last letters of the webs that can stand, "" if the bare web can."""
    stands = all_standing(book, shelf, start)
    nexts = nexts_at(book.letters, stands.nodes, 0)
    seen = [letter for letter, to in zip(book.letters, nexts) if stands.nodes[to] != ("says", False)]
    return tuple(["", *seen] if stands.nodes[0][1] else seen)
