"""What the first hand of a duel can bring about, whatever is beneath, and the webs on which it wins."""

from millhands.books import check_web
from millhands.duels import is_seen_at
from millhands.helpers import check_same_letters
from millhands.passing import complement
from millhands.tellers import first_web, told


class Forcing:
    """What is forced in a duel. Lots of turns are told by numbers, whose bits are the turns.

    lots has for each turn and last letter the tuple of the least lots that are forced; found has
    all of them, and those that were found to be least ahead of others within them, with the round
    in which they came up: each of them comes of what came up in earlier rounds. bare has, for the
    turns from which the first hand wins on a bare web, the like.
    """

    def __init__(self, book, duel, goal):
        check_same_letters(book.letters, [duel.letters])
        self.book = book
        self.turns = duel.turns
        self.goal = goal
        self.lots = {(turn, letter): () for turn in range(len(duel.turns)) for letter in book.letters}
        self.found = {}
        self.rounds = 0
        while self.note_round({spot: self.lots_at(spot) for spot in self.lots}):
            self.rounds += 1
        self.bare = {}
        if goal[0] == "bare":
            self.bare = {turn: 0 for turn in range(len(self.turns))}
        while self.note_bare([turn for turn in range(len(self.turns)) if self.is_won_bare(turn)]):
            self.rounds += 1

    def note_round(self, further):
        """Notes what comes of all that is known; whether it is more."""
        fresh = [(spot, lot) for spot, lots in further.items() for lot in lots if not is_let(self.lots[spot], lot)]
        for spot, lot in fresh:
            self.found[spot + (lot,)] = self.rounds
        self.lots = further
        return len(fresh) > 0

    def note_bare(self, turns):
        fresh = [turn for turn in turns if turn not in self.bare]
        for turn in fresh:
            self.bare[turn] = self.rounds
        return len(fresh) > 0

    def lots_at(self, spot):
        """The least lots that are forced from a turn and a last letter, by what is known."""
        turn, letter = spot
        if is_seen_at(self.goal, letter):
            return (0,)
        hand, moves = self.turns[turn]
        ways = [self.lots_by(letter, laid, further) for laid, further in moves]
        return any_of(ways) if hand == 0 else all_of(ways)

    def lots_by(self, letter, laid, further):
        """The least lots that are forced by a move at a last letter."""
        left = self.book.left_of(letter, laid)
        if left == "":
            return (1 << further,)
        return self.through(self.lots[(further, laid)], letter) if left is None else self.lots[(further, left)]

    def through(self, lots, letter):
        """The least lots that are forced at a letter from all turns of one of some lots."""
        return any_of([all_of([self.lots[(turn, letter)] for turn in turns_of(lot)]) for lot in lots])

    def is_won_bare(self, turn):
        """Whether the first hand wins on a bare web from a turn, by what is known."""
        hand, moves = self.turns[turn]
        won = lot_of(self.bare)
        ways = [is_let(self.lots[(further, laid)], won) for laid, further in moves]
        return any(ways) if hand == 0 else all(ways)

    def won_on(self, web):
        """The lot of the turns from which the first hand wins on a web."""
        won = lot_of(self.bare)
        for letter in web:
            won = lot_of([turn for turn in range(len(self.turns)) if is_let(self.lots[(turn, letter)], won)])
        return won

    def winning_set(self):
        """The least end set of the webs on which the first hand wins from turn 0 on.

        A state has the least lots one of which has to be won on what is still to be read.
        """
        won = lot_of(self.bare)

        def look(lots):
            value = is_let(lots, won)
            # Nothing more is wanted of what is to be read, or nothing helps.
            if lots in ((), (0,)):
                return value, None
            return value, tuple([self.through(lots, letter) for letter in self.book.letters])

        return told(self.book.letters, (1,), look)


def lot_of(turns):
    """Some turns as a number."""
    return sum([1 << turn for turn in turns])


def turns_of(lot):
    """The ascending tuple of the turns of a lot."""
    return tuple([turn for turn in range(lot.bit_length()) if lot & (1 << turn)])


def is_let(lots, lot):
    """Whether one of some lots is within a lot."""
    return any([some & ~lot == 0 for some in lots])


def least_of(lots):
    """The ascending tuple of those of some lots that have no other one within them."""
    found = []
    # Whatever is within a lot is a lesser number.
    for lot in sorted(set(lots)):
        if not is_let(found, lot):
            found.append(lot)
    return tuple(found)


def any_of(ways):
    """The least lots that one of some ways forces."""
    return least_of([lot for lots in ways for lot in lots])


def all_of(ways):
    """The least lots that all of some ways force."""
    found = (0,)
    for lots in ways:
        found = least_of([lot | other for lot in found for other in lots])
    return found


def forced(book, duel, goal):
    """The forcing table: for each turn and letter the ascending tuple of the least lots that are forced."""
    lots = Forcing(book, duel, goal).lots
    return tuple([(*spot, tuple(sorted([turns_of(lot) for lot in lots[spot]]))) for spot in sorted(lots)])


def does_force(book, duel, goal, turn, letter, lot):
    """Whether the first hand forces a lot from a turn and a last letter on."""
    return is_let(Forcing(book, duel, goal).lots[(turn, letter)], lot_of(lot))


def does_hold_back(book, duel, goal, turn, letter, lot):
    """Whether the second hand holds a lot from a turn and a last letter on: the other turns are not forced."""
    others = [other for other in range(len(duel.turns)) if other not in lot]
    return not does_force(book, duel, goal, turn, letter, others)


def winning_turns(book, duel, goal, web):
    """The ascending tuple of the turns from which the first hand wins on a web."""
    check_same_letters(book.letters, [duel.letters])
    check_web(book.letters, web)
    return turns_of(Forcing(book, duel, goal).won_on(web))


def does_win(book, duel, goal, web):
    """Whether the first hand wins on a web from turn 0 on."""
    return 0 in winning_turns(book, duel, goal, web)


def winners(book, duel, goal):
    """The least end set of the webs on which the first hand wins from turn 0 on."""
    return Forcing(book, duel, goal).winning_set()


def first_won(book, duel, goal):
    """The first web on which the first hand wins from turn 0 on, None if there is none."""
    return first_web(winners(book, duel, goal))


def first_lost(book, duel, goal):
    """The first web on which the second hand wins from turn 0 on, None if there is none."""
    return first_web(complement(winners(book, duel, goal)))
