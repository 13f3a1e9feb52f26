"""Two logs joined: where they are sound, and which of their lots can stay, or bar one another."""

from millhands.books import check_web
from millhands.logs import joined_logs
from millhands.sheds import Fitting, outcome_lots, sound_set
from millhands.tellers import first_web


class Joining:
    """Two logs joined, some lots of which are told by a number: its bits are their places in the joined log.

    The orders of lots that are kept alone are those that they have in the joined log, so what
    fits of this tells all about them.
    """

    def __init__(self, one, other):
        self.one = one
        self.other = other
        self.log = joined_logs(one, other)
        self.handed_in = sum([1 << at for at, lot in enumerate(self.log) if lot[1]])
        self.whole = (1 << len(self.log)) - 1
        self.first = (1 << len(one)) - 1

    def outcomes_apart(self):
        """The lots of all outcomes of the joined log, and of each of both logs."""
        others = [lots << len(self.one) for lots in outcome_lots(self.other)]
        return outcome_lots(self.log) + outcome_lots(self.one) + others

    def can_stay(self, lots, fits):
        """Whether these lots alone are sound where this fits."""
        needed = lots & self.handed_in
        some = lots
        # All parts of the lots are gone through, from the whole down to none.
        while some & needed != needed or fits & (1 << some):
            if some == 0:
                return True
            some = (some - 1) & lots
        return False

    def do_bar(self, lots, fits):
        """Whether these lots are not sound together, though those of each log are sound alone."""
        if self.can_stay(lots, fits):
            return False
        return self.can_stay(lots & self.first, fits) and self.can_stay(lots & ~self.first, fits)

    def pair_of(self, lots):
        """Some lots as a pair of tuples of numbers, as their own logs number them."""
        one = [lot[0] for at, lot in enumerate(self.one) if lots & (1 << at)]
        other = [lot[0] for at, lot in enumerate(self.other, start=len(self.one)) if lots & (1 << at)]
        return tuple(one), tuple(other)

    def pairs_of(self, found):
        return tuple(sorted([self.pair_of(lots) for lots in found]))


def joined_set(book, one, other):
    """The least end set of the webs on which two logs joined are sound."""
    return sound_set(book, joined_logs(one, other))


def first_barred_web(book, one, other):
    """The first web on which each of two logs is sound, and both joined are not, None if there is none."""
    joining = Joining(one, other)
    fitting = Fitting(book, joining.log, joining.outcomes_apart())
    return first_web(fitting.set_where(lambda fits: joining.do_bar(joining.whole, fits)))


def all_fits_on(book, joining, web):
    """What fits a web of all lots that can be kept."""
    return Fitting(book, joining.log, list(range(joining.whole + 1))).fits_on(web)


def least_bars(book, one, other, web):
    """The ascending tuple of the pairs that bar on a web, without those that have another one within them."""
    check_web(book.letters, web)
    joining = Joining(one, other)
    fits = all_fits_on(book, joining, web)
    barring = [lots for lots in range(joining.whole + 1) if joining.do_bar(lots, fits)]
    return joining.pairs_of([lots for lots in barring if not any([is_less(some, lots) for some in barring])])


def most_kept(book, one, other, web):
    """The ascending tuple of the pairs that can stay on a web and are within no other one that can."""
    check_web(book.letters, web)
    joining = Joining(one, other)
    fits = all_fits_on(book, joining, web)
    staying = [lots for lots in range(joining.whole + 1) if joining.can_stay(lots, fits)]
    return joining.pairs_of([lots for lots in staying if not any([is_less(lots, some) for some in staying])])


def is_less(some, lots):
    """Whether some lots are all among others, and these are more."""
    return some != lots and some & lots == some
