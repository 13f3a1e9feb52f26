"""Ways by which machines read webs from their ends, the lightest of them, and many places gone through at once."""

from heapq import heappop, heappush

from millhands.tellers import nexts_at
from millhands.unions import least_union

# What stands behind the last letter of a web that is read from its end.
BOTTOM = "-"
# The place where a web ends; all others are numbered from 0 on.
END = -1


class Ways:
    """A machine that reads webs from their ends, and all ways that rules put in beside those of an end set.

    A rule is a triple of a weft's number and two words: wherever a way by the first one leads
    from place 0, there a way by the second one leads, too, which bears one weft more. Ways are
    found in the order of their wefts, the fewest ones first. The places are those of the end set,
    and those within the second words of the rules.
    """

    def __init__(self, ends, rules):
        self.letters = ends.letters
        self.inner = {"": 0}
        self.closing = {}
        self.parts = {}
        # For each place what leads on from it: letters, places, and how many wefts a way bears.
        self.ways = {}
        self.reasons = {}
        self.matched = {}
        self.came = {}
        self.queue = []
        self.noted = []
        # The places from which all webs are read to their ends.
        self.whole = {}
        self.put_nodes(ends.least())
        for number, known, fresh in rules:
            self.put_rule(number, known, fresh)
        self.enter(0, ("", 0, None))
        while self.queue:
            weight, at = heappop(self.queue)
            self.take(weight, self.noted[at])

    def enter(self, weight, entry):
        """Puts in a way (place, letter, place, reason), or a match (word, place, the place ahead of it)."""
        heappush(self.queue, (weight, len(self.noted)))
        self.noted.append(entry)

    def put_nodes(self, ends):
        """The ways of an end set; its node 0 has a place of its own beside place 0, to which nothing leads back."""
        for at, node in enumerate(ends.nodes):
            for place in ([0, at + 1] if at == 0 else [at + 1]):
                if node == ("says", True):
                    self.whole[place] = True
                if node[1]:
                    self.enter(0, (place, BOTTOM, END, None))
                for letter, to in zip(ends.letters, nexts_at(ends.letters, ends.nodes, at)):
                    if ends.nodes[to] != ("says", False):
                        self.enter(0, (place, letter, to + 1, None))
        self.many = len(ends.nodes) + 1

    def put_rule(self, number, known, fresh):
        for left in range(len(known)):
            self.parts[known[:left + 1]] = True
        self.closing.setdefault(known, []).append((number, fresh))
        for left in range(1, len(fresh)):
            if fresh[:left] not in self.inner:
                self.inner[fresh[:left]] = self.many
                self.enter(0, (self.inner[fresh[:left - 1]], fresh[left - 1], self.many, None))
                self.many += 1

    def take(self, weight, entry):
        """Notes a way or a match that was found with the fewest wefts, and all that comes of it."""
        if len(entry) == 3:
            word, place, ahead = entry
            if (word, place) not in self.came:
                self.came[(word, place)] = ahead
                self.note_match(weight, word, place)
        elif entry[:3] not in self.reasons:
            place, letter, to, reason = entry
            self.reasons[(place, letter, to)] = reason
            self.ways.setdefault(place, {}).setdefault(letter, {})[to] = weight
            for word, many in self.matched.get(place, {}).items():
                if word + letter in self.parts:
                    self.enter(many + weight, (word + letter, to, place))

    def note_match(self, weight, word, place):
        self.matched.setdefault(place, {})[word] = weight
        for letter, places in self.ways.get(place, {}).items():
            if word + letter in self.parts:
                for to, many in places.items():
                    self.enter(weight + many, (word + letter, to, place))
        for number, fresh in self.closing.get(word, []):
            self.enter(weight + 1, (self.inner[fresh[:-1]], fresh[-1], place, (number, word, place)))

    def least_ends(self, most=None):
        """The least end set of the webs that are read to their ends."""
        useful = self.useful_places()
        bits = {place: 1 << at for at, place in enumerate(sorted(useful))}
        moves = []
        for letter in self.letters:
            row = [[to for to in self.ways.get(place, {}).get(letter, {}) if to in useful] for place in sorted(useful)]
            moves.append([sum([bits[to] for to in places]) for places in row])
        ends = sum([bits[place] for place in useful if BOTTOM in self.ways.get(place, {})])
        whole = sum([bits[place] for place in self.whole if place in useful])
        return least_union(self.letters, moves, ends, whole, bits.get(0, 0), most)

    def useful_places(self):
        """The places from which some web is read to its end."""
        sources = {}
        for place, _, to in self.reasons:
            sources.setdefault(to, []).append(place)
        useful = {END: True}
        stack = [END]
        while stack:
            fresh = [source for source in sources.get(stack.pop(), []) if source not in useful]
            for source in fresh:
                useful[source] = True
            stack.extend(fresh)
        return useful

    def lightest(self, ends):
        """How many wefts the lightest way bears by which a web of an end set is read, and its parts.

        The last part is the first one of them; None if no web of the end set is read to its end.
        """
        queue = [(0, 0)]
        entries = [(0, 0, None, "")]
        met = {}
        while queue:
            weight, number = heappop(queue)
            place, node, _, _ = entries[number]
            if place == END:
                return weight, parts_behind(entries, number)
            if (place, node) in met:
                continue
            met[(place, node)] = True
            for letter, to, behind in self.moves_beside(ends, place, node):
                heappush(queue, (weight + self.ways[place][letter][to], len(entries)))
                entries.append((to, behind, number, letter))
        return None

    def moves_beside(self, ends, place, node):
        """The ways from a place on, each with the node of an end set that is behind it."""
        found = []
        for letter, places in self.ways.get(place, {}).items():
            if letter == BOTTOM:
                behind = node if ends.nodes[node][1] else None
            else:
                behind = nexts_at(self.letters, ends.nodes, node)[self.letters.index(letter)]
            if behind is not None and ends.nodes[behind] != ("says", False):
                found.extend([(letter, to, behind) for to in places])
        return found

    def course_of(self, parts):
        """The course that a way bears, whose parts are told, the last one first."""
        course = []
        stack = list(parts)
        while stack:
            reason = self.reasons[stack.pop()]
            if reason is not None:
                number, word, place = reason
                course.append(number)
                stack.extend(self.match_parts(word, place))
        return tuple(course)

    def match_parts(self, word, place):
        """The ways by which a word leads to a place, the last one first."""
        parts = []
        for left in reversed(range(len(word))):
            ahead = self.came[(word[:left + 1], place)]
            parts.append((ahead, word[left], place))
            place = ahead
        return parts


def parts_behind(entries, number):
    """The ways that lead to an entry, the last one first."""
    parts = []
    while entries[number][2] is not None:
        place, _, ahead, letter = entries[number]
        parts.append((entries[ahead][0], letter, place))
        number = ahead
    return parts
