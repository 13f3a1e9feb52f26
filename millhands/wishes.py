"""Wishes of hands that are at work, and releases: others that are handed in or taken out."""

from millhands.errors import BadWish
from millhands.helpers import is_letter, is_number
from millhands.logs import handed, is_numbers, taken_out


def is_open(log, thing):
    """Whether any value is the number of an open lot of a log."""
    return is_number(thing) and thing in [lot[0] for lot in log if not lot[1]]


def is_wish(letters, log, thing):
    """Whether any value is a wish of a log over some letters."""
    if not isinstance(thing, tuple) or len(thing) != 2 or not is_open(log, thing[0]):
        return False
    return is_letter(letters, thing[1]) or (isinstance(thing[1], str) and thing[1] == "?")


def check_wish(letters, log, thing):
    if not is_wish(letters, log, thing):
        raise BadWish(thing)


def check_wishes(letters, log, thing):
    """Any value has to be a tuple of wishes of a log, no two of one lot."""
    if not isinstance(thing, tuple):
        raise BadWish(thing)
    known = {}
    for wish in thing:
        check_wish(letters, log, wish)
        if wish[0] in known:
            raise BadWish(wish)
        known[wish[0]] = True


def items_of_wish(letters, log, wish):
    """The tuple of the items of a wish, in order: one that is laid, or all looks."""
    check_wish(letters, log, wish)
    if wish[1] != "?":
        return (wish[1],)
    looks = ["?" + letter for letter in letters]
    return ("?-", *looks)


def others_of(log, number):
    """The ascending tuple of the numbers of the open lots but one."""
    return tuple([lot[0] for lot in log if not lot[1] and lot[0] != number])


def is_release(log, number, thing):
    """Whether any value is a release of a wish of an open lot."""
    if not isinstance(thing, tuple) or len(thing) != 2 or not is_numbers(thing[0]) or not is_numbers(thing[1]):
        return False
    others = others_of(log, number)
    if not all([other in others for other in thing[0] + thing[1]]):
        return False
    return not any([other in thing[1] for other in thing[0]])


def releases_of(log, number):
    """The ascending tuple of all releases of a wish of an open lot."""
    found = [((), ())]
    for other in others_of(log, number):
        with_handed = [((*some, other), gone) for some, gone in found]
        with_gone = [(some, (*gone, other)) for some, gone in found]
        found = found + with_handed + with_gone
    return tuple(sorted(found))


def released(log, release):
    """The log with the lots of a release handed in and taken out."""
    for number in release[0]:
        log = handed(log, number)
    for number in release[1]:
        log = taken_out(log, number)
    return log


def is_release_within(release, other):
    """Whether each of the two parts of a release is a part of that of another one."""
    return all([number in other[0] for number in release[0]]) and all([number in other[1] for number in release[1]])


def least_ones(releases):
    """Those of some releases that have no other one of them within."""
    return tuple([release for release in releases if not any([is_less_release(other, release) for other in releases])])


def is_less_release(release, other):
    return release != other and is_release_within(release, other)
