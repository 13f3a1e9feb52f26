"""Papers of the status of a wish on an end set: rows with orders, from which it can be read off."""

from itertools import combinations

from millhands.helpers import check_same_letters, is_paper
from millhands.logs import outcomes, weft_of, with_item
from millhands.shedpapers import are_orders, is_ends_over, is_order, is_outcome
from millhands.sheds import Fitting, all_fitting_set, first_order, first_unfit, lots_of, unfit_set
from millhands.tellers import but_not, first_web, is_covered, is_within
from millhands.wishes import check_wish, items_of_wish, least_ones, others_of, releases_of


def sets_of_others(log, number):
    """All sets of the others of a wish, in order: those with fewer numbers are ahead."""
    others = list(others_of(log, number))
    return [some for many in range(len(others) + 1) for some in combinations(others, many)]


def fit_outcomes(log, number):
    """The outcomes of all done lots, an own lot, and each set of its others, sets in order."""
    handed_in = [lot[0] for lot in log if lot[1]]
    return [tuple(sorted([*handed_in, number, *some])) for some in sets_of_others(log, number)]


def row_on(book, log, wish, web):
    """A row that tells the status of a wish on a web, with all webs for which it is right."""
    outcome = first_unfit(book, log, web)
    if outcome is not None:
        return (unfit_set(book, log, outcome), outcome)
    row = tuple([first_order(book, log, one, web) for one in outcomes(log)])
    table = []
    for item in items_of_wish(book.letters, log, wish):
        further = with_item(log, wish[0], item)
        table.append(tuple([first_order(book, further, one, web) for one in fit_outcomes(log, wish[0])]))
    return (row_set(book, log, wish, row, table), row, tuple(table))


def row_set(book, log, wish, row, table):
    """The least end set of the webs for which the orders of a row, and those of its table, are right."""
    wefts = [weft_of(log, order) for order in row]
    barred = []
    asked = fit_outcomes(log, wish[0])
    for item, told_orders in zip(items_of_wish(book.letters, log, wish), table):
        further = with_item(log, wish[0], item)
        wefts.extend([weft_of(further, order) for order in told_orders if order is not None])
        unfit = [lots_of(log, one) for one, order in zip(asked, told_orders) if order is None]
        if unfit:
            barred.append(Fitting(book, further, unfit))
    return all_fitting_set(book, wefts, barred)


def judge_status(book, log, wish, ends):
    """Any paper of the status of a wish on an end set."""
    check_same_letters(book.letters, [ends.letters])
    check_wish(book.letters, log, wish)
    rows = []
    rest = ends
    web = first_web(rest)
    while web is not None:
        rows.append(row_on(book, log, wish, web))
        rest = but_not(rest, rows[-1][0])
        web = first_web(rest)
    return ("status", tuple(rows))


def status_holds(book, log, wish, ends, thing):
    """Whether any value is a paper of the status of a wish on an end set."""
    check_same_letters(book.letters, [ends.letters])
    check_wish(book.letters, log, wish)
    if not is_paper(thing, "status", 2) or not isinstance(thing[1], tuple):
        return False
    for row in thing[1]:
        if not is_status_row(book, log, wish, row):
            return False
    return is_covered(ends, [row[0] for row in thing[1]])


def is_status_row(book, log, wish, thing):
    """Whether any value is a row that is right for all webs of its end set."""
    if not isinstance(thing, tuple) or len(thing) not in (2, 3) or not is_ends_over(book.letters, thing[0]):
        return False
    if len(thing) == 2:
        return is_outcome(log, thing[1]) and is_within(thing[0], unfit_set(book, log, thing[1]))
    if not are_orders(log, thing[1]) or not is_table(book.letters, log, wish, thing[2]):
        return False
    return is_within(thing[0], row_set(book, log, wish, thing[1], thing[2]))


def is_table(letters, log, wish, thing):
    """Whether any value has, for each item of a wish and each set of others, an order or None."""
    if not isinstance(thing, tuple) or len(thing) != len(items_of_wish(letters, log, wish)):
        return False
    asked = fit_outcomes(log, wish[0])
    for row in thing:
        if not isinstance(row, tuple) or len(row) != len(asked):
            return False
        if not all([order is None or is_order(log, outcome, order) for outcome, order in zip(asked, row)]):
            return False
    return True


def row_status(letters, log, wish, row):
    """The status that a row of a paper tells."""
    check_same_letters(letters, [row[0].letters])
    items = items_of_wish(letters, log, wish)
    if len(row) == 2:
        return ("unsound",)
    for item, told_orders in zip(items, row[2]):
        if None not in told_orders:
            return ("told", item)
    sets = sets_of_others(log, wish[0])
    letting = [release for release in releases_of(log, wish[0])
               if any([does_row_let(sets, told_orders, release) for told_orders in row[2]])]
    return ("waits", least_ones(letting)) if letting else ("never",)


def does_row_let(sets, told_orders, release):
    """Whether an item has an order for each set of others in which all of handed are and none of gone is."""
    return all([order is not None or not is_left(some, release) for some, order in zip(sets, told_orders)])


def is_left(some, release):
    """Whether a set of others is one of those that a release leaves."""
    return all([number in some for number in release[0]]) and not any([number in some for number in release[1]])
