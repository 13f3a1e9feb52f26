"""Courses: wefts of a shelf done one behind the other, any number of times; what can stand, and what can come."""

from heapq import heappop, heappush

from millhands.books import check_web
from millhands.errors import BadCourse
from millhands.helpers import check_same_letters, is_below, nexts_of, walked
from millhands.ledsets import domain
from millhands.tellers import are_apart, longest, nexts_at, said_from, told
from millhands.wefts import is_weft, reader_of, run_on

# What stands behind the last letter of a web that is read from its end.
BOTTOM = "-"
# The place where a web ends; all others are numbered from 0 on.
END = -1


def is_shelf(letters, thing):
    """Whether any value is a shelf: one or more wefts over some letters."""
    return isinstance(thing, tuple) and thing != () and all([is_weft(letters, weft) for weft in thing])


def wrong_place(shelf, thing):
    """The first place of any value that keeps it from being a course, -1 if it is no tuple, None if it is one."""
    if not isinstance(thing, tuple):
        return -1
    return next((place for place, number in enumerate(thing) if not is_below(number, len(shelf))), None)


def led_by(book, shelf, web, course):
    """The web to which a course leads a web, None if it does not go."""
    for number in course:
        web, failed = run_on(book, shelf[number], web)
        if failed is not None:
            return None
    return web


def course_led(book, shelf, web, course):
    """As led_by, for any values."""
    check_web(book.letters, web)
    place = wrong_place(shelf, course)
    if place is not None:
        raise BadCourse(place)
    return led_by(book, shelf, web, course)


def changes_of(book, shelf):
    """All pairs of words that the wefts of a shelf exchange, as triples of a weft's number, what goes, what comes.

    Words are written as they are read, from the end of a web on. Both end with "-", where the
    web is read whole; otherwise any rest stands behind both.
    """
    changes = []
    for number, weft in enumerate(shelf):
        nodes = reader_of(book, weft).nodes
        stack = [(0, "")]
        while stack:
            at, way = stack.pop()
            node = nodes[at]
            if node[0] == "stops":
                changes.append((number, way, node[1][::-1]))
            elif node[0] == "reads" and node[1] is not None:
                changes.append((number, way + BOTTOM, node[1][::-1] + BOTTOM))
            stack.extend([(to, way + letter) for letter, to in zip(book.letters, nexts_of(node))])
    return changes


def lasting_changes(book, shelf):
    """As changes_of, with a letter of the rest behind both words where one of them is empty."""
    found = []
    for number, gone, come in changes_of(book, shelf):
        behind = [""] if gone and come else [*book.letters, BOTTOM]
        found.extend([(number, gone + letter, come + letter) for letter in behind])
    return found


class Ways:
    """A machine that reads webs from their ends, and all ways that rules put in beside those of an end set.

    A rule is a triple of a weft's number and two words: wherever a way by the first one leads
    from place 0, there a way by the second one leads, too, which bears one weft more. Ways are
    found in the order of their wefts, the fewest ones first. The places are those of the end set,
    and those within the second words of the rules.
    """

    def __init__(self, ends, rules):
        self.letters = ends.letters
        self.inner = {"": 0}
        self.closing = {}
        self.parts = {}
        # For each place what leads on from it: letters, places, and how many wefts a way bears.
        self.ways = {}
        self.reasons = {}
        self.matched = {}
        self.came = {}
        self.queue = []
        self.noted = []
        # The places from which all webs are read to their ends.
        self.whole = {}
        self.put_nodes(ends.least())
        for number, known, fresh in rules:
            self.put_rule(number, known, fresh)
        self.enter(0, ("", 0, None))
        while self.queue:
            weight, at = heappop(self.queue)
            self.take(weight, self.noted[at])

    def enter(self, weight, entry):
        """Puts in a way (place, letter, place, reason), or a match (word, place, the place ahead of it)."""
        heappush(self.queue, (weight, len(self.noted)))
        self.noted.append(entry)

    def put_nodes(self, ends):
        """The ways of an end set; its node 0 has a place of its own beside place 0, to which nothing leads back."""
        for at, node in enumerate(ends.nodes):
            for place in ([0, at + 1] if at == 0 else [at + 1]):
                if node == ("says", True):
                    self.whole[place] = True
                if node[1]:
                    self.enter(0, (place, BOTTOM, END, None))
                for letter, to in zip(ends.letters, nexts_at(ends.letters, ends.nodes, at)):
                    if ends.nodes[to] != ("says", False):
                        self.enter(0, (place, letter, to + 1, None))
        self.many = len(ends.nodes) + 1

    def put_rule(self, number, known, fresh):
        for left in range(len(known)):
            self.parts[known[:left + 1]] = True
        self.closing.setdefault(known, []).append((number, fresh))
        for left in range(1, len(fresh)):
            if fresh[:left] not in self.inner:
                self.inner[fresh[:left]] = self.many
                self.enter(0, (self.inner[fresh[:left - 1]], fresh[left - 1], self.many, None))
                self.many += 1

    def take(self, weight, entry):
        """Notes a way or a match that was found with the fewest wefts, and all that comes of it."""
        if len(entry) == 3:
            word, place, ahead = entry
            if (word, place) not in self.came:
                self.came[(word, place)] = ahead
                self.note_match(weight, word, place)
        elif entry[:3] not in self.reasons:
            place, letter, to, reason = entry
            self.reasons[(place, letter, to)] = reason
            self.ways.setdefault(place, {}).setdefault(letter, {})[to] = weight
            for word, many in self.matched.get(place, {}).items():
                if word + letter in self.parts:
                    self.enter(many + weight, (word + letter, to, place))

    def note_match(self, weight, word, place):
        self.matched.setdefault(place, {})[word] = weight
        for letter, places in self.ways.get(place, {}).items():
            if word + letter in self.parts:
                for to, many in places.items():
                    self.enter(weight + many, (word + letter, to, place))
        for number, fresh in self.closing.get(word, []):
            self.enter(weight + 1, (self.inner[fresh[:-1]], fresh[-1], place, (number, word, place)))

    def least_ends(self, most=None):
        """The least end set of the webs that are read to their ends."""
        useful = self.useful_places()
        moves = {place: {letter: [to for to in self.ways[place].get(letter, {}) if to in useful]
                         for letter in self.letters} for place in useful if place != END}

        def look(places):
            value = any([BOTTOM in self.ways[place] for place in places])
            if not places or any([place in self.whole for place in places]):
                return value, None
            rows = [sorted(set([to for place in places for to in moves[place][letter]])) for letter in self.letters]
            return value, tuple([tuple(row) for row in rows])

        return told(self.letters, (0,) if 0 in useful else (), look, most)

    def useful_places(self):
        """The places from which some web is read to its end."""
        sources = {}
        for place, _, to in self.reasons:
            sources.setdefault(to, []).append(place)
        useful = {END: True}
        stack = [END]
        while stack:
            fresh = [source for source in sources.get(stack.pop(), []) if source not in useful]
            for source in fresh:
                useful[source] = True
            stack.extend(fresh)
        return useful

    def lightest(self, ends):
        """How many wefts the lightest way bears by which a web of an end set is read, and its parts.

        The last part is the first one of them; None if no web of the end set is read to its end.
        """
        queue = [(0, 0)]
        entries = [(0, 0, None, "")]
        met = {}
        while queue:
            weight, number = heappop(queue)
            place, node, _, _ = entries[number]
            if place == END:
                return weight, parts_behind(entries, number)
            if (place, node) in met:
                continue
            met[(place, node)] = True
            for letter, to, behind in self.moves_beside(ends, place, node):
                heappush(queue, (weight + self.ways[place][letter][to], len(entries)))
                entries.append((to, behind, number, letter))
        return None

    def moves_beside(self, ends, place, node):
        """The ways from a place on, each with the node of an end set that is behind it."""
        found = []
        for letter, places in self.ways.get(place, {}).items():
            if letter == BOTTOM:
                behind = node if ends.nodes[node][1] else None
            else:
                behind = nexts_at(self.letters, ends.nodes, node)[self.letters.index(letter)]
            if behind is not None and ends.nodes[behind] != ("says", False):
                found.extend([(letter, to, behind) for to in places])
        return found

    def course_of(self, parts):
        """The course that a way bears, whose parts are told, the last one first."""
        course = []
        stack = list(parts)
        while stack:
            reason = self.reasons[stack.pop()]
            if reason is not None:
                number, word, place = reason
                course.append(number)
                stack.extend(self.match_parts(word, place))
        return tuple(course)

    def match_parts(self, word, place):
        """The ways by which a word leads to a place, the last one first."""
        parts = []
        for left in reversed(range(len(word))):
            ahead = self.came[(word[:left + 1], place)]
            parts.append((ahead, word[left], place))
            place = ahead
        return parts


def parts_behind(entries, number):
    """The ways that lead to an entry, the last one first."""
    parts = []
    while entries[number][2] is not None:
        place, _, ahead, letter = entries[number]
        parts.append((entries[ahead][0], letter, place))
        number = ahead
    return parts


def standing_ways(book, shelf, start):
    """The machine that reads the webs that can stand from an end set."""
    return Ways(start, lasting_changes(book, shelf))


def coming_ways(book, shelf, goal):
    """The machine that reads the webs that can come to an end set."""
    return Ways(goal, [(number, come, gone) for number, gone, come in lasting_changes(book, shelf)])


def standing(book, shelf, start, *, most=400):
    """The least end set of the webs that can stand from an end set."""
    check_same_letters(book.letters, [start.letters])
    return standing_ways(book, shelf, start).least_ends(most)


def coming(book, shelf, goal, *, most=400):
    """The least end set of the webs that can come to an end set."""
    check_same_letters(book.letters, [goal.letters])
    return coming_ways(book, shelf, goal).least_ends(most)


def all_standing(book, shelf, start):
    """As standing, however many nodes it has."""
    return standing(book, shelf, start, most=None)


def all_coming(book, shelf, goal):
    """As coming, however many nodes it has."""
    return coming(book, shelf, goal, most=None)


def fewest_wefts(book, shelf, start, goal):
    """The fewest wefts of a course from an end set to another one, None if no course leads there."""
    check_same_letters(book.letters, [start.letters, goal.letters])
    found = coming_ways(book, shelf, goal).lightest(start)
    return None if found is None else found[0]


def is_closed(book, shelf, ends):
    """Whether each weft of a shelf leaves webs of an end set alone of webs of this set.

    Where a weft reads one word and leaves another one, each rest that stands behind the first one
    in the end set has to stand there behind the second one.
    """
    check_same_letters(book.letters, [ends.letters])
    pairs = {}
    stack = []
    for _, gone, come in changes_of(book, shelf):
        if gone.endswith(BOTTOM):
            if said_of(ends, gone) and not said_of(ends, come):
                return False
        else:
            stack.append((node_behind(ends, gone), node_behind(ends, come)))
    while stack:
        pair = stack.pop()
        if pair in pairs or pair[0] == pair[1]:
            continue
        pairs[pair] = True
        if ends.nodes[pair[0]][1] and not ends.nodes[pair[1]][1]:
            return False
        left, right = [nexts_at(ends.letters, ends.nodes, at) for at in pair]
        stack.extend(list(zip(left, right)))
    return True


def node_behind(ends, word):
    """The node of an end set behind a word that is read from the end of a web on."""
    return walked(ends.letters, ends.nodes, 0, word[::-1])[0]


def said_of(ends, word):
    """Whether an end set has the web that is read as a word with its bottom."""
    return said_from(ends.letters, ends.nodes, 0, word[:-1][::-1])


def longest_standing(book, shelf, start):
    """How many letters the longest webs have that can stand, -1 without any, None if there are ever longer ones."""
    return longest(all_standing(book, shelf, start))


def idle_wefts(book, shelf, start):
    """The ascending tuple of the numbers of the wefts that fit no web that can stand."""
    stands = all_standing(book, shelf, start)
    return tuple([number for number, weft in enumerate(shelf) if are_apart(stands, domain(reader_of(book, weft)))])


def sights(book, shelf, start):
    """The ascending tuple of the last letters of the webs that can stand, "" if the bare web can."""
    stands = all_standing(book, shelf, start)
    nexts = nexts_at(book.letters, stands.nodes, 0)
    seen = [letter for letter, to in zip(book.letters, nexts) if stands.nodes[to] != ("says", False)]
    return tuple(["", *seen] if stands.nodes[0][1] else seen)
