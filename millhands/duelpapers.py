"""Papers that one of two hands wins a duel on a web: rows by which it can go, whatever the other hand does."""

from millhands.books import check_web
from millhands.duels import is_seen_at
from millhands.forcing import Forcing, least_of, turns_of
from millhands.helpers import check_same_letters, is_ascending, is_below, is_letter, is_number, is_paper


class Rows:
    """The rows of a paper for one hand, to be asked for: places has for each turn and letter the lots and their ranks.

    Ranks that are asked to be lesser count for the first hand alone; None stands for no bound.
    """

    def __init__(self, book, duel, goal, hand):
        self.book = book
        self.turns = duel.turns
        self.goal = goal
        self.hand = hand
        self.places = {}

    def put(self, turn, seen, lot, rank):
        ranks = self.places.setdefault((turn, seen), {})
        ranks[lot] = min(rank, ranks.get(lot, rank))

    def is_less(self, known, rank):
        return self.hand == 1 or rank is None or known < rank

    def least_within(self, turn, seen, lot, rank):
        """The least rank of a row with a turn and what is seen whose lot is within lot, and this; None without one."""
        found = [(known, turns) for turns, known in self.places.get((turn, seen), {}).items()
                 if self.is_less(known, rank) and all([one in lot for one in turns])]
        return min(found, default=None)

    def standing(self, move, seen, lot, rank):
        """A lot of a row of a letter that stands, from each turn of which rows go on at what is seen.

        The pair of the least sum of their ranks, and the lot; None if there is none.
        """
        found = []
        for turns, known in self.places.get((move[1], move[0]), {}).items():
            behind = [self.least_within(one, seen, lot, rank) for one in turns]
            if self.is_less(known, rank) and None not in behind:
                found.append((known + max([most for most, _ in behind], default=0), turns))
        return min(found, default=None)

    def cost_by(self, move, seen, lot, rank):
        """The least sum of the ranks by which a row keeps a move, None if it does not."""
        left = self.book.left_of(seen, move[0]) if seen else None
        if left == "":
            return 0 if move[1] in lot else None
        if left is None:
            found = self.standing(move, seen, lot, rank)
        else:
            found = self.least_within(move[1], left, lot, rank)
        return None if found is None else found[0]

    def kept_moves(self, turn, seen, lot, rank):
        """The moves that a row keeps, as pairs of what they cost, and the move."""
        found = [(self.cost_by(move, seen, lot, rank), move) for move in self.turns[turn][1]]
        return [(cost, move) for cost, move in found if cost is not None]

    def is_right(self, turn, seen, lot, rank):
        """Whether a row is right."""
        if is_seen_at(self.goal, seen):
            return self.hand == 0
        many = len(self.kept_moves(turn, seen, lot, rank))
        hand, moves = self.turns[turn]
        return many > 0 if hand == self.hand else many == len(moves)

    def rank_for(self, turn, seen, lot):
        """The rank of a row of the first hand, by those that there are: at most how many moves it takes."""
        if is_seen_at(self.goal, seen):
            return 0
        costs = [cost for cost, _ in self.kept_moves(turn, seen, lot, None)]
        return 1 + (min(costs) if self.turns[turn][0] == 0 else max(costs))

    def reached(self, web):
        """The list of the lots of turns that the rows reach on the bare web, and behind each letter of a web."""
        found = [[turn for turn in range(len(self.turns)) if (turn, "") in self.places]]
        for letter in web:
            found.append([turn for turn in range(len(self.turns)) if self.least_within(turn, letter, found[-1], None)])
        return found


def check_asked(book, duel, web):
    check_same_letters(book.letters, [duel.letters])
    check_web(book.letters, web)


def judge_duel(book, duel, goal, web):
    """Any paper that the first hand wins on a web from turn 0 on, or that the second one does."""
    check_asked(book, duel, web)
    forcing = Forcing(book, duel, goal)
    word = "first" if forcing.won_on(web) & 1 else "second"
    rows = first_rows(book, duel, goal, forcing) if word == "first" else second_rows(duel, forcing)
    return (word, tuple(sorted(rows)))


def first_rows(book, duel, goal, forcing):
    """All rows for the first hand, each of which goes by some that came up in earlier rounds."""
    rows = Rows(book, duel, goal, 0)
    found = []
    bare = [(turn, "", 0) for turn in forcing.bare]
    for turn, seen, lot in list(forcing.found) + bare:
        turns = turns_of(lot)
        rank = rows.rank_for(turn, seen, turns)
        rows.put(turn, seen, turns, rank)
        found.append((turn, seen, turns, rank))
    return found


def second_rows(duel, forcing):
    """All rows for the second hand."""
    found = [(turn, "", (), 0) for turn in range(len(duel.turns)) if turn not in forcing.bare]
    for (turn, seen), lots in forcing.lots.items():
        found.extend([(turn, seen, turns_of(lot), 0) for lot in held_lots(lots)])
    return found


def held_lots(lots):
    """The least lots that the second hand holds: each of them has a turn of each lot that the first one forces."""
    found = (0,)
    for lot in lots:
        found = least_of([held | (1 << turn) for held in found for turn in turns_of(lot)])
    return found


def is_row(letters, many, hand, thing):
    """Whether any value has the form of a row for a hand, in a duel of so many turns."""
    if not isinstance(thing, tuple) or len(thing) != 4:
        return False
    turn, seen, lot, rank = thing
    if not is_below(turn, many) or not isinstance(lot, tuple) or not all([is_below(one, many) for one in lot]):
        return False
    if not is_ascending(lot) or not is_number(rank) or rank < 0 or (hand == 1 and rank > 0):
        return False
    return is_letter(letters, seen) or (isinstance(seen, str) and seen == "" and lot == ())


def duel_holds(book, duel, goal, web, thing):
    """Whether any value is a paper that one of both hands wins on a web from turn 0 on."""
    check_asked(book, duel, web)
    if not is_paper(thing, "first", 2) and not is_paper(thing, "second", 2):
        return False
    hand = 0 if thing[0] == "first" else 1
    if not isinstance(thing[1], tuple):
        return False
    if not all([is_row(book.letters, len(duel), hand, row) for row in thing[1]]) or not is_ascending(thing[1]):
        return False
    rows = rows_told(book, duel, goal, thing)
    return all([rows.is_right(*row) for row in thing[1]]) and 0 in rows.reached(web)[-1]


def rows_told(book, duel, goal, paper):
    """The rows of a paper, to be asked for."""
    rows = Rows(book, duel, goal, 0 if paper[0] == "first" else 1)
    for row in paper[1]:
        rows.put(*row)
    return rows
