"""Duels: turns at which two hands lay letters, and goals that the first one wants."""

from millhands.errors import BadDuel
from millhands.helpers import is_ascending, is_below, is_letter, is_paper, nodes_read, number_read, wrong_part

MOST_TURNS = 99


class Duel:
    """Turns that are numbered from 0 on: whose each one is, and the moves that there are."""

    def __init__(self, letters, turns):
        part = wrong_part(letters, turns, is_turn, "turns", MOST_TURNS)
        if part is not None:
            raise BadDuel(part)
        self.letters = letters
        self.turns = turns

    def __len__(self):
        return len(self.turns)

    def __eq__(self, other):
        return isinstance(other, Duel) and self.letters == other.letters and self.turns == other.turns

    def __str__(self):
        lines = [turn_line(turn) for turn in self.turns]
        return "\n".join([f"duel {self.letters}", *lines])

    @classmethod
    def read(cls, text):
        """The duel with this text."""
        letters, turns = nodes_read("duel", text, turn_read, MOST_TURNS)
        return cls(letters, turns)


def is_turn(letters, thing, many):
    """Whether any value is a turn of a duel with so many turns."""
    if not isinstance(thing, tuple) or len(thing) != 2 or not is_below(thing[0], 2):
        return False
    moves = thing[1]
    if not isinstance(moves, tuple) or moves == () or not all([is_move(letters, move, many) for move in moves]):
        return False
    return is_ascending([move[0] for move in moves])


def is_move(letters, thing, many):
    """Whether any value is a move: a letter, and the turn that follows."""
    if not isinstance(thing, tuple) or len(thing) != 2:
        return False
    return is_letter(letters, thing[0]) and is_below(thing[1], many)


def turn_line(turn):
    """The line of a turn in a text."""
    words = [f"{letter} {further}" for letter, further in turn[1]]
    return " ".join([f"turn {turn[0]}", *words])


def turn_read(letters, line, many):
    """The turn that a line tells, None if it tells none."""
    words = line.split(" ")
    if words[0] != "turn" or len(words) < 2:
        return None
    moves = tuple([(letter, number_read(further, many)) for letter, further in zip(words[2::2], words[3::2])])
    turn = (number_read(words[1], 2), moves)
    return turn if len(words) == 2 + 2 * len(moves) and is_turn(letters, turn, many) else None


def is_goal(letters, thing):
    """Whether any value is a goal."""
    if is_paper(thing, "bare", 1):
        return True
    return is_paper(thing, "last", 2) and is_letter(letters, thing[1])


def is_at(goal, web):
    """Whether a web is at a goal."""
    return is_seen_at(goal, web[-1:])


def is_seen_at(goal, seen):
    """Whether a web is at a goal of which a last letter is seen, or "" if it is bare."""
    return seen == "" if goal[0] == "bare" else seen == goal[1]
