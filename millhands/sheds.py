"""Sheds: all that the orders of an outcome leave, and where a log is sound, certain and free."""

from millhands.books import check_web
from millhands.fans import Gathering, gathered
from millhands.logs import orders, outcomes, weft_of
from millhands.tellers import all_webs, both, but_not, first_web, told
from millhands.wefts import gone_on, reader_of, run_on


class Fitting:
    """Which lots of a log have an order that fits a web, all of their orders being tried at once.

    Some lots are told by a number: its bits are their places in the log. What fits is told by a
    number, too: its bits are the numbers of those lots, among the wanted ones, that have an order
    that fits. A thread (lots, at, place) has lots that were done and a place in the weft of the
    lot that is done next, where nothing is left of what was laid. A state has the threads that
    read on, and what fits whatever they read.
    """

    def __init__(self, book, log, wanted):
        self.book = book
        self.wefts = [lot[3] for lot in log]
        self.bars = [bars_of(log, lot[0]) for lot in log]
        self.wanted = sorted(set(list(wanted)))
        self.all_wanted = sum([1 << lots for lots in self.wanted])
        self.aims = {}
        self.known = {}
        threads, fits = self.tried(self.entries(0, ""), False, 1)
        self.start = (tuple(sorted(threads)), fits & self.all_wanted)

    def aims_of(self, lots):
        """The wanted lots that have all of some lots, as what fits is told."""
        if lots not in self.aims:
            self.aims[lots] = sum([1 << wanted for wanted in self.wanted if wanted & lots == lots])
        return self.aims[lots]

    def entries(self, lots, web):
        """The beginnings of each lot that can stand behind some lots, of which something is left on a web."""
        free = [at for at, bars in enumerate(self.bars) if not lots & bars]
        return [(lots, at, 0, web) for at in free if self.aims_of(lots | (1 << at))]

    def tried(self, runs, is_bare, fits):
        """The threads that come of some runs, each a thread and what it sees, and what fits by them and already."""
        threads = {}
        met = {}
        stack = list(runs)
        while stack:
            lots, at, place, web = stack.pop()
            place, web = gone_on(self.book, self.wefts[at], place, web, is_bare)
            if place < 0:
                continue
            if place < len(self.wefts[at]):
                threads[(lots, at, place)] = True
                continue
            lots |= 1 << at
            if (lots, web) not in met:
                met[(lots, web)] = True
                fits |= 1 << lots
                stack.extend(self.entries(lots, web))
        return list(threads), fits

    def behind(self, thread, seen):
        """The threads behind one that sees a letter, or "" for a bare web, and what fits by them."""
        key = (thread, seen)
        if key not in self.known:
            self.known[key] = self.tried([(*thread, seen)], seen == "", 0)
        return self.known[key]

    def next_state(self, state, letter):
        """The state behind one letter more; threads that lead to nothing new are left out."""
        fits = state[1]
        threads = {}
        for thread in state[0]:
            further, more = self.behind(thread, letter)
            fits |= more
            for one in further:
                threads[one] = True
        fits &= self.all_wanted
        left = [one for one in threads if self.aims_of(one[0] | (1 << one[1])) & ~fits]
        return tuple(sorted(left)), fits

    def nexts(self, state):
        return tuple([self.next_state(state, letter) for letter in self.book.letters])

    def fits_bare(self, state):
        """What fits if nothing more is there to be read."""
        fits = state[1]
        for thread in state[0]:
            fits |= self.behind(thread, "")[1]
        return fits & self.all_wanted

    def fits_on(self, web):
        """What fits a web."""
        state = self.start
        for letter in web[::-1]:
            if not state[0]:
                return state[1]
            state = self.next_state(state, letter)
        return self.fits_bare(state)

    def set_where(self, truth):
        """The least end set of the webs for which truth holds of what fits."""
        return told(self.book.letters, self.start, lambda state: (
            truth(self.fits_bare(state)), self.nexts(state) if state[0] else None))


class AllFitting:
    """Wefts that read one web at once, all of which have to fit.

    A state is the ascending tuple of what is still to be done of them where nothing is left of
    what was laid, () if all of them fit whatever is read, None as soon as one does not fit.
    """

    def __init__(self, book):
        self.book = book
        self.known = {}

    def begun(self, wefts):
        """The state in which some wefts begin."""
        return tuple(sorted(set([weft for weft in wefts if weft])))

    def behind(self, weft, seen):
        """What is to be done behind a letter that is seen, or "" for a bare web; None if the weft does not fit."""
        key = (weft, seen)
        if key not in self.known:
            place, _ = gone_on(self.book, weft, 0, seen, seen == "")
            self.known[key] = None if place < 0 else weft[place:]
        return self.known[key]

    def next_state(self, state, seen):
        """The state behind one letter more, or behind all that there is to be read."""
        left = [self.behind(weft, seen) for weft in state]
        return None if None in left else self.begun(left)

    def fits_bare(self, state):
        """Whether all fit if nothing more is there to be read."""
        return self.next_state(state, "") is not None


def all_fitting_set(book, wefts, barred=()):
    """The least end set of the webs that all of some wefts fit, and where nothing wanted of some trials fits."""
    fitting = AllFitting(book)

    def look(state):
        rests, others = state
        if rests is None or any([fits for _, fits in others]):
            return False, None
        value = fitting.fits_bare(rests) and not any([one.fits_bare(at) for one, at in zip(barred, others)])
        if not rests and not any([threads for threads, _ in others]):
            return value, None
        further = [tuple([one.next_state(at, letter) for one, at in zip(barred, others)]) for letter in book.letters]
        return value, tuple(zip([fitting.next_state(rests, letter) for letter in book.letters], further))

    return told(book.letters, (fitting.begun(wefts), tuple([one.start for one in barred])), look)


def unfit_set(book, log, outcome):
    """The least end set of the webs that no order of an outcome fits."""
    return Fitting(book, log, [lots_of(log, outcome)]).set_where(lambda fits: fits == 0)


def bars_of(log, number):
    """The lots behind which a lot cannot stand in any order: itself, and those that have it as an earlier one."""
    return sum([1 << at for at, lot in enumerate(log) if lot[0] == number or number in lot[2]])


def lots_of(log, numbers):
    """Some lots of a log, told by their numbers, as a number whose bits are their places."""
    return sum([1 << at for at, lot in enumerate(log) if lot[0] in numbers])


def outcome_lots(log):
    """The lots of each outcome, in order."""
    return [lots_of(log, outcome) for outcome in outcomes(log)]


def log_fitting(book, log):
    """The trial of all outcomes of a log."""
    return Fitting(book, log, outcome_lots(log))


def order_readers(book, log, outcome):
    """The tuple of the readers of all orders of an outcome, each reader once."""
    readers = {}
    for order in orders(log, outcome):
        reader = reader_of(book, weft_of(log, order))
        readers[reader.nodes] = reader
    return tuple(readers.values())


def shed(book, log, outcome, *, most=400):
    """The least fan that makes of each web all webs that orders of an outcome leave."""
    return gathered(book.letters, order_readers(book, log, outcome), most=most)


def whole_shed(book, log, outcome):
    """The shed of an outcome, however many nodes it has."""
    return shed(book, log, outcome, most=None)


def left_by(book, log, order, web):
    """What an order leaves of a web, None if it does not fit."""
    left, failed = run_on(book, weft_of(log, order), web)
    return left if failed is None else None


def shed_on(book, log, outcome, web):
    """The ascending tuple of the webs that orders of an outcome leave of a web."""
    check_web(book.letters, web)
    left = [left_by(book, log, order, web) for order in orders(log, outcome)]
    return tuple(sorted(set([made for made in left if made is not None])))


def first_order(book, log, outcome, web):
    """The least order of an outcome that fits a web, None if none does."""
    check_web(book.letters, web)
    for order in orders(log, outcome):
        if left_by(book, log, order, web) is not None:
            return order
    return None


def first_unfit(book, log, web):
    """The first outcome of a log that has no order that fits a web, None if each one has one."""
    fits = log_fitting(book, log).fits_on(web)
    for outcome, lots in zip(outcomes(log), outcome_lots(log)):
        if not fits & (1 << lots):
            return outcome
    return None


def is_sound(book, log, web):
    """Whether each outcome of a log has an order that fits a web."""
    check_web(book.letters, web)
    return first_unfit(book, log, web) is None


def sound_set(book, log):
    """The least end set of the webs on which a log is sound."""
    fitting = log_fitting(book, log)
    return fitting.set_where(lambda fits: fits == fitting.all_wanted)


def first_unsound(book, log):
    """The first web on which a log is not sound, None if there is none."""
    return first_web(but_not(all_webs(book.letters), sound_set(book, log)))


def certain_set(book, log, outcome):
    """The least end set of the webs of which the shed of an outcome makes at most one web."""
    readers = order_readers(book, log, outcome)
    gathering = Gathering(book.letters, readers)

    def look(state):
        # Two words that stand behind one rest stay unlike, whatever is read.
        if len(state[1]) > 1:
            return False, None
        return len(gathering.made_bare(state)) < 2, gathering.nexts(state) or None

    return told(book.letters, gathering.begun(list(range(len(readers)))), look)


def free_set(book, log, number):
    """The least end set of the webs on which an open lot is free."""
    found = all_webs(book.letters)
    for outcome in outcomes(log):
        if number not in outcome:
            further = tuple(sorted([*outcome, number]))
            found = both(found, same_shed_set(book, log, outcome, further))
    return found


def same_shed_set(book, log, outcome, further):
    """The least end set of the webs of which the sheds of two outcomes make the same."""
    readers = order_readers(book, log, outcome)
    others = order_readers(book, log, further)
    gathering = Gathering(book.letters, readers + others)

    def look(pair):
        one, other = pair
        value = gathering.made_bare(one) == gathering.made_bare(other)
        # Equal states make the same of all webs; words that stand stay like or unlike.
        if one == other or not (one[0] or other[0]):
            return value, None
        return value, tuple([(gathering.next_at(one, at), gathering.next_at(other, at)) for at in range(len(book))])

    begun = gathering.begun(list(range(len(readers))))
    others_begun = gathering.begun(list(range(len(readers), len(readers + others))))
    return told(book.letters, (begun, others_begun), look)
