"""Players: hands that win a duel by going by the rows of one paper."""

from millhands.books import laid_behind
from millhands.duelpapers import judge_duel, rows_told
from millhands.duels import is_at
from millhands.errors import Lost, NoMove, NothingToUndo, NotNow


class Player:
    """A hand that wins a duel on a web, and plays it.

    A state of the play has the web, the turn, and bounds for the bare web and for each letter of
    the web: the next row that is gone by there has a lot within this lot, and a rank below this rank.
    """

    def __init__(self, book, duel, goal, web, hand):
        paper = judge_duel(book, duel, goal, web)
        if paper[0] != ("first" if hand == 0 else "second"):
            raise Lost(paper)
        self.hand = hand
        self.goal = goal
        self.book = book
        self.turns = duel.turns
        self.rows = rows_told(book, duel, goal, paper)
        beneath = [(turns, None) for turns in self.rows.reached(web)[:-1]]
        self.states = [(web, 0, (((), None), *beneath))]

    def __len__(self):
        return len(self.states[1:])

    @property
    def web_now(self):
        return self.states[-1][0]

    @property
    def turn_now(self):
        return self.states[-1][1]

    @property
    def is_over(self):
        return is_at(self.goal, self.states[-1][0])

    def check_now(self, is_own):
        """It has to be a turn of the own hand, or of the other one, and not all over."""
        if self.is_over or (self.turns[self.turn_now][0] == self.hand) != is_own:
            raise NotNow()

    def move(self):
        """Lays a letter at a turn of the own hand, and tells it."""
        self.check_now(True)
        lot, rank = self.row_gone_by()
        _, chosen = min(self.rows.kept_moves(self.turn_now, self.web_now[-1:], lot, rank))
        self.lay(chosen)
        return chosen[0]

    def hear(self, letter):
        """Takes a letter that the other hand lays."""
        self.check_now(False)
        found = [one for one in self.turns[self.turn_now][1] if isinstance(letter, str) and one[0] == letter]
        if not found:
            raise NoMove(letter)
        self.lay(found[0])

    def row_gone_by(self):
        """The lot and the rank of the row that is gone by now."""
        web, turn, bounds = self.states[-1]
        most, bound = bounds[-1]
        rank, lot = self.rows.least_within(turn, web[-1:], most, bound)
        return lot, rank

    def lay(self, chosen):
        """Puts the state behind a move: whatever comes back to what is seen now is bound by the row of now."""
        web, _, bounds = self.states[-1]
        seen = web[-1:]
        lot, rank = self.row_gone_by()
        left = self.book.left_of(seen, chosen[0]) if seen else None
        bounds = bounds[:-1] if left == "" else bounds[:-1] + ((lot, rank),)
        if left is None:
            _, standing = self.rows.standing(chosen, seen, lot, rank)
            bounds = (*bounds, (standing, rank))
        self.states.append((laid_behind(self.book, web, chosen[0]), chosen[1], bounds))

    def undo(self):
        """Takes the last letter back, whoever laid it."""
        if len(self) == 0:
            raise NothingToUndo()
        self.states.pop()
