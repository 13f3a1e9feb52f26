"""Days woven lot by lot, and which of their lots can go."""

from itertools import combinations

from millhands.books import is_web
from millhands.helpers import check_same_letters, is_paper
from millhands.passing import asked_ends, complement
from millhands.sheds import all_fitting_set
from millhands.tellers import both, but_not, first_web, is_end_set, is_within
from millhands.wefts import fits_web, is_weft, reader_of


def is_day(book, thing):
    """Whether any value is a day of a book."""
    return isinstance(thing, tuple) and all([is_weft(book.letters, weft) for weft in thing])


def woven(day):
    """The weft of all items of a day, one lot behind the other."""
    return tuple([item for weft in day for item in weft])


def day_reader(book, day):
    """The least reader of a day."""
    return reader_of(book, woven(day))


def rest_of(day, numbers):
    """The day without some of its lots."""
    return tuple([weft for number, weft in enumerate(day) if number not in numbers])


def check_ends(book, ends):
    check_same_letters(book.letters, [] if ends is None else [ends.letters])


def staying_set(book, day, numbers):
    """The least end set of the webs that a day fits, and the rest without some lots does not."""
    rest = all_fitting_set(book, [woven(rest_of(day, numbers))])
    return but_not(all_fitting_set(book, [woven(day)]), rest)


def going_set(book, day, numbers):
    """The least end set of the webs on which some lots of a day can go."""
    return complement(staying_set(book, day, numbers))


def first_staying(book, day, numbers, ends):
    """The first web of an end set on which some lots cannot go, None if there is none."""
    check_ends(book, ends)
    return first_web(both(asked_ends(book, ends), staying_set(book, day, numbers)))


def can_lots_go(book, day, numbers, *, ends=None):
    """Whether some lots of a day can go on each web of an end set."""
    return first_staying(book, day, numbers, ends) is None


def going_with(book, day, number, *, ends=None):
    """The ascending tuple of the least sets of lots, one lot among them, that can go on an end set."""
    others = [other for other in range(len(day)) if other != number]
    found = []
    # Fewer ones are ahead: none of those that come later is within an earlier one.
    for many in range(len(day)):
        for some in combinations(others, many):
            lots = tuple(sorted([*some, number]))
            if not any([is_part(held, lots) for held in found]) and can_lots_go(book, day, lots, ends=ends):
                found.append(lots)
    return tuple(sorted(found))


def is_part(some, lots):
    return all([number in lots for number in some])


def needed_by_nobody(book, day, *, ends=None):
    """The ascending tuple of the numbers of the lots of a day that can go alone."""
    check_ends(book, ends)
    return tuple([number for number in range(len(day)) if can_lots_go(book, day, (number,), ends=ends)])


def judge_lots(book, day, numbers, *, ends=None):
    """Any paper that some lots can go on an end set, or the first web on which they cannot."""
    web = first_staying(book, day, numbers, ends)
    return ("goes", going_set(book, day, numbers)) if web is None else ("stays", web)


def lots_hold(book, day, numbers, thing, *, ends=None):
    """Whether any value is a paper that some lots can go on an end set, or that they cannot."""
    check_ends(book, ends)
    asked = asked_ends(book, ends)
    if is_paper(thing, "stays", 2):
        if not is_web(book.letters, thing[1]) or not asked.says(thing[1]):
            return False
        return fits_web(book, woven(day), thing[1]) and not fits_web(book, woven(rest_of(day, numbers)), thing[1])
    if not is_paper(thing, "goes", 2) or not is_end_set(thing[1]) or thing[1].letters != book.letters:
        return False
    return is_within(asked, thing[1]) and is_within(thing[1], going_set(book, day, numbers))
