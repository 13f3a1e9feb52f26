"""Sheds: all that the orders of an outcome leave, and where a log is sound, certain and free."""

from millhands.books import check_web
from millhands.fans import Gathering, gathered
from millhands.ledsets import domain
from millhands.logs import orders, outcomes, weft_of
from millhands.tellers import all_webs, both, but_not, either, first_web, no_webs, told
from millhands.wefts import done, reader_of


def order_readers(book, log, outcome):
    """The tuple of the readers of all orders of an outcome, each reader once."""
    readers = {}
    for order in orders(log, outcome):
        reader = reader_of(book, weft_of(log, order))
        readers[reader.nodes] = reader
    return tuple(readers.values())


def shed(book, log, outcome, *, most=400):
    """The least fan that makes of each web all webs that orders of an outcome leave."""
    return gathered(book.letters, order_readers(book, log, outcome), most=most)


def shed_on(book, log, outcome, web):
    """The ascending tuple of the webs that orders of an outcome leave of a web."""
    check_web(book.letters, web)
    left = [done(book, weft_of(log, order), web) for order in orders(log, outcome)]
    return tuple(sorted(set([made for made in left if made is not None])))


def first_order(book, log, outcome, web):
    """The least order of an outcome that fits a web, None if none does."""
    check_web(book.letters, web)
    for order in orders(log, outcome):
        if done(book, weft_of(log, order), web) is not None:
            return order
    return None


def is_sound(book, log, web):
    """Whether each outcome of a log has an order that fits a web."""
    check_web(book.letters, web)
    return all([first_order(book, log, outcome, web) is not None for outcome in outcomes(log)])


def fitting_set(book, log, outcome):
    """The least end set of the webs that some order of an outcome fits."""
    found = no_webs(book.letters)
    for reader in order_readers(book, log, outcome):
        found = either(found, domain(reader))
    return found


def sound_set(book, log):
    """The least end set of the webs on which a log is sound."""
    found = all_webs(book.letters)
    for outcome in outcomes(log):
        found = both(found, fitting_set(book, log, outcome))
    return found


def first_unsound(book, log):
    """The first web on which a log is not sound, None if there is none."""
    return first_web(but_not(all_webs(book.letters), sound_set(book, log)))


def certain_set(book, log, outcome):
    """The least end set of the webs of which the shed of an outcome makes at most one web."""
    readers = order_readers(book, log, outcome)
    gathering = Gathering(book.letters, readers)

    def look(state):
        # Two words that stand behind one rest stay unlike, whatever is read.
        if len(state[1]) > 1:
            return False, None
        return len(gathering.made_bare(state)) < 2, gathering.nexts(state) or None

    return told(book.letters, gathering.begun(list(range(len(readers)))), look)


def free_set(book, log, number):
    """The least end set of the webs on which an open lot is free."""
    found = all_webs(book.letters)
    for outcome in outcomes(log):
        if number not in outcome:
            further = tuple(sorted([*outcome, number]))
            found = both(found, same_shed_set(book, log, outcome, further))
    return found


def same_shed_set(book, log, outcome, further):
    """The least end set of the webs of which the sheds of two outcomes make the same."""
    readers = order_readers(book, log, outcome)
    others = order_readers(book, log, further)
    gathering = Gathering(book.letters, readers + others)

    def look(pair):
        one, other = pair
        value = gathering.made_bare(one) == gathering.made_bare(other)
        # Equal states make the same of all webs; words that stand stay like or unlike.
        if one == other or not (one[0] or other[0]):
            return value, None
        return value, tuple([(gathering.next_at(one, at), gathering.next_at(other, at)) for at in range(len(book))])

    begun = gathering.begun(list(range(len(readers))))
    others_begun = gathering.begun(list(range(len(readers), len(readers + others))))
    return told(book.letters, (begun, others_begun), look)
