"""Answers to wishes: what can be told now, what has to wait for others, and what can never be told."""

from millhands.books import check_web
from millhands.errors import Unsound
from millhands.logs import with_item
from millhands.sheds import Fitting, first_unfit, log_fitting, lots_of, outcome_lots
from millhands.tellers import first_web, told
from millhands.wishes import check_wish, items_of_wish, least_ones, releases_of


class Asking:
    """A wish of a log, and the trials of the log as it is and with each item of the wish.

    What fits is told as a tuple of what fits of each of these logs, the log as it is first.
    """

    def __init__(self, book, log, wish):
        self.letters = book.letters
        self.choices = items_of_wish(book.letters, log, wish)
        logs = [with_item(log, wish[0], item) for item in self.choices]
        self.fittings = [log_fitting(book, further) for further in (log, *logs)]
        self.start = tuple([fitting.start for fitting in self.fittings])
        self.whole = self.fittings[0].all_wanted
        self.releases = [(release, release_bits(log, release)) for release in releases_of(log, wish[0])]
        self.known = {}

    def fits_on(self, web):
        return tuple([fitting.fits_on(web) for fitting in self.fittings])

    def told_by(self, fits):
        """The items that can be told where this fits."""
        return tuple([item for item, further in zip(self.choices, fits[1:]) if further == self.whole])

    def releases_by(self, fits):
        """The least releases where this fits."""
        letting = [release for release, bits in self.releases if any([some & bits == bits for some in fits[1:]])]
        return least_ones(letting)

    def status_by(self, fits):
        """The status where this fits."""
        if fits not in self.known:
            self.known[fits] = self.status_found(fits)
        return self.known[fits]

    def status_found(self, fits):
        if fits[0] != self.whole:
            return ("unsound",)
        items = self.told_by(fits)
        if items:
            return ("told", items[0])
        releases = self.releases_by(fits)
        return ("waits", releases) if releases else ("never",)

    def seen_at(self, states):
        """The status on the web that was read to these states."""
        return self.status_by(tuple([fitting.fits_bare(state) for fitting, state in zip(self.fittings, states)]))

    def nexts(self, states):
        """The states behind each letter, None if none of the logs reads on."""
        if not any([state[0] for state in states]):
            return None
        rows = [fitting.nexts(state) for fitting, state in zip(self.fittings, states)]
        return tuple(zip(*rows))


def release_bits(log, release):
    """The outcomes that are left by a release, as what fits is told."""
    handed_in = lots_of(log, release[0])
    gone = lots_of(log, release[1])
    return sum([1 << lots for lots in outcome_lots(log) if lots & handed_in == handed_in and not lots & gone])


def fit_set(book, log, number, item, some):
    """The least end set of the webs on which the fit of an item has a set of others."""
    handed_in = [lot[0] for lot in log if lot[1]]
    lots = lots_of(log, (*handed_in, number, *some))
    return Fitting(book, with_item(log, number, item), [lots]).set_where(lambda fits: fits != 0)


def lets_set(book, log, number, item, release):
    """The least end set of the webs on which a release lets an item."""
    bits = release_bits(log, release)
    wanted = [lots for lots in outcome_lots(log) if bits & (1 << lots)]
    return Fitting(book, with_item(log, number, item), wanted).set_where(lambda fits: fits == bits)


def asked_on(book, log, wish, web):
    """What is asked, where it is known to be a wish, and what fits a web."""
    check_wish(book.letters, log, wish)
    check_web(book.letters, web)
    asking = Asking(book, log, wish)
    return asking, asking.fits_on(web)


def told_items(book, log, wish, web):
    """The tuple of the items of a wish that can be told on a web."""
    asking, fits = asked_on(book, log, wish, web)
    return asking.told_by(fits)


def check_sound(book, log, web):
    outcome = first_unfit(book, log, web)
    if outcome is not None:
        raise Unsound(outcome)


def least_releases(book, log, wish, web):
    """The ascending tuple of the least releases of a wish on a web on which the log is sound."""
    asking, fits = asked_on(book, log, wish, web)
    check_sound(book, log, web)
    return asking.releases_by(fits)


def status(book, log, wish, web):
    """What can be said to a wish on a web: it is told, waits or is never told, or the log is not sound."""
    asking, fits = asked_on(book, log, wish, web)
    return asking.status_by(fits)


def status_teller(book, log, wish, *, most=400):
    """The least teller of the status of a wish."""
    check_wish(book.letters, log, wish)
    asking = Asking(book, log, wish)
    return told(book.letters, asking.start, lambda states: (asking.seen_at(states), asking.nexts(states)), most)


def first_with(book, log, wish, word):
    """The first web on which the status of a wish begins with a word, None if there is none."""
    return first_web(with_set(book, log, wish, word))


def with_set(book, log, wish, word):
    """The least end set of the webs on which the status of a wish begins with a word."""
    check_wish(book.letters, log, wish)
    asking = Asking(book, log, wish)
    return told(book.letters, asking.start, lambda states: (asking.seen_at(states)[0] == word, asking.nexts(states)))
