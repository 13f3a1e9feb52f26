"""Papers that a log is sound on an end set, and that an outcome is certain there, or not."""

from millhands.books import is_web
from millhands.fans import lone_node
from millhands.helpers import check_same_letters, is_number, is_paper
from millhands.ledsets import alike_set
from millhands.logs import is_numbers, orders, outcomes, weft_of
from millhands.readers import Reader
from millhands.sheds import (all_fitting_set, certain_set, first_order, first_unfit, left_by, sound_set, whole_shed)
from millhands.tellers import but_not, first_web, is_covered, is_end_set, is_within


def judge_sound(book, log, ends):
    """Any paper that a log is sound on an end set, or the first web and outcome that show that it is not."""
    check_same_letters(book.letters, [ends.letters])
    web = first_web(but_not(ends, sound_set(book, log)))
    if web is not None:
        return ("unsound", web, first_unfit(book, log, web))
    rows = []
    web = first_web(ends)
    rest = ends
    while web is not None:
        row = tuple([first_order(book, log, outcome, web) for outcome in outcomes(log)])
        fitting = all_fitting_set(book, [weft_of(log, order) for order in row])
        rows.append((fitting, row))
        rest = but_not(rest, fitting)
        web = first_web(rest)
    return ("sound", tuple(rows))


def is_order(log, outcome, thing):
    """Whether any value is an order of an outcome."""
    if not isinstance(thing, tuple) or not all([is_number(number) for number in thing]):
        return False
    return thing in orders(log, outcome)


def is_outcome(log, thing):
    """Whether any value is an outcome of a log."""
    return is_numbers(thing) and thing in outcomes(log)


def are_orders(log, thing):
    """Whether any value has just one order of each outcome, outcomes in order."""
    found = outcomes(log)
    if not isinstance(thing, tuple) or len(thing) != len(found):
        return False
    return all([is_order(log, outcome, order) for outcome, order in zip(found, thing)])


def is_ends_over(letters, thing):
    """Whether any value is an end set over these letters."""
    return is_end_set(thing) and thing.letters == letters


def is_sound_row(book, log, thing):
    """Whether any value has an end set, and an order of each outcome that fits all of its webs."""
    if not isinstance(thing, tuple) or len(thing) != 2 or not is_ends_over(book.letters, thing[0]):
        return False
    if not are_orders(log, thing[1]):
        return False
    return is_within(thing[0], all_fitting_set(book, [weft_of(log, order) for order in thing[1]]))


def sound_holds(book, log, ends, thing):
    """Whether any value is a paper that a log is sound on an end set, or that it is not."""
    check_same_letters(book.letters, [ends.letters])
    if is_paper(thing, "unsound", 3):
        if not is_web(book.letters, thing[1]) or not ends.says(thing[1]) or not is_outcome(log, thing[2]):
            return False
        return first_order(book, log, thing[2], thing[1]) is None
    if not is_paper(thing, "sound", 2) or not isinstance(thing[1], tuple):
        return False
    for row in thing[1]:
        if not is_sound_row(book, log, row):
            return False
    return is_covered(ends, [row[0] for row in thing[1]])


def judge_certain(book, log, outcome, ends):
    """Any paper that an outcome is certain on an end set, or the first web on which two of its orders part."""
    check_same_letters(book.letters, [ends.letters])
    web = first_web(but_not(ends, certain_set(book, log, outcome)))
    if web is None:
        return ("certain", lone_reader(book, log, outcome))
    ways = [(order, left_by(book, log, order, web)) for order in orders(log, outcome)]
    ways = [(order, left) for order, left in ways if left is not None]
    other = next((order for order, left in ways if left != ways[0][1]), None)
    return ("parted", web, ways[0][0], other)


def lone_reader(book, log, outcome):
    """The least reader of what a shed makes where this is one web or none; elsewhere it makes one of them."""
    nodes = whole_shed(book, log, outcome).nodes
    return Reader(book.letters, tuple([lone_node(node) for node in nodes])).least()


def certain_holds(book, log, outcome, ends, thing):
    """Whether any value is a paper that an outcome is certain on an end set, or that orders part there."""
    check_same_letters(book.letters, [ends.letters])
    if is_paper(thing, "parted", 4):
        if not is_web(book.letters, thing[1]) or not ends.says(thing[1]):
            return False
        if not is_order(log, outcome, thing[2]) or not is_order(log, outcome, thing[3]):
            return False
        return are_parting(left_by(book, log, thing[2], thing[1]), left_by(book, log, thing[3], thing[1]))
    if not is_paper(thing, "certain", 2) or not isinstance(thing[1], Reader) or thing[1].letters != book.letters:
        return False
    if not is_within(ends, certain_set(book, log, outcome)):
        return False
    return is_within(ends, alike_set(lone_reader(book, log, outcome), thing[1]))


def are_parting(left, other):
    """Whether two orders fit, and leave unlike webs."""
    return left is not None and other is not None and left != other
