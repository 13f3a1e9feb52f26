"""Lots, logs, their outcomes and orders."""

from itertools import combinations

from millhands.helpers import is_ascending, is_number
from millhands.wefts import is_weft


def is_numbers(thing):
    """Whether any value is an ascending tuple of integers."""
    return isinstance(thing, tuple) and all([is_number(number) for number in thing]) and is_ascending(thing)


def is_lot(letters, thing):
    """Whether any value is a lot, whatever its earlier numbers are."""
    if not isinstance(thing, tuple) or len(thing) != 4:
        return False
    number, is_handed, earlier, weft = thing
    if not is_number(number) or number < 0 or not isinstance(is_handed, bool):
        return False
    return is_numbers(earlier) and is_weft(letters, weft)


def is_log(letters, thing):
    """Whether any value is a log over some letters."""
    if not isinstance(thing, tuple) or not all([is_lot(letters, lot) for lot in thing]):
        return False
    numbers = [lot[0] for lot in thing]
    if not is_ascending(numbers):
        return False
    return all([earlier in numbers and earlier < lot[0] for lot in thing for earlier in lot[2]])


def outcomes(log):
    """The tuple of all outcomes of a log, in order: those with fewer numbers are ahead."""
    handed_in = [lot[0] for lot in log if lot[1]]
    still = [lot[0] for lot in log if not lot[1]]
    found = []
    for many in range(len(still) + 1):
        some = [tuple(sorted([*handed_in, *taken])) for taken in combinations(still, many)]
        found.extend(sorted(some))
    return tuple(found)


def orders(log, outcome):
    """The ascending tuple of all orders of an outcome."""
    earlier = {lot[0]: lot[2] for lot in log}
    found = [()]
    for _ in outcome:
        pairs = [(order, number) for order in found for number in outcome]
        found = [(*order, number) for order, number in pairs if can_follow(order, number, outcome, earlier)]
    return tuple(found)


def can_follow(order, number, outcome, earlier):
    """Whether a number can stand next in an order: all of its earlier ones in the outcome stand already."""
    if number in order:
        return False
    return all([ahead in order or ahead not in outcome for ahead in earlier[number]])


def weft_of(log, order):
    """The wefts of the lots of an order, one behind the other."""
    wefts = {lot[0]: lot[3] for lot in log}
    return tuple([item for number in order for item in wefts[number]])


def handed(log, number):
    """The log with an open lot handed in."""
    return tuple([(lot[0], lot[1] or lot[0] == number, lot[2], lot[3]) for lot in log])


def taken_out(log, number):
    """The log with an open lot taken out."""
    return kept(log, tuple([lot[0] for lot in log if lot[0] != number]))


def kept(log, numbers):
    """The log with these lots alone."""
    return tuple([kept_lot(lot, numbers) for lot in log if lot[0] in numbers])


def kept_lot(lot, numbers):
    return (lot[0], lot[1], tuple([earlier for earlier in lot[2] if earlier in numbers]), lot[3])


def with_item(log, number, item):
    """The log with an item behind the weft of an open lot."""
    return tuple([(*lot[:3], (*lot[3], item)) if lot[0] == number else lot for lot in log])


def joined_logs(one, other):
    """The lots of the one log, and behind them those of the other, with greater numbers."""
    shift = one[-1][0] + 1 if one else 0
    return one + tuple([shifted_lot(lot, shift) for lot in other])


def shifted_lot(lot, shift):
    return (lot[0] + shift, lot[1], tuple([earlier + shift for earlier in lot[2]]), lot[3])
