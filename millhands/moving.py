"""Wefts that come of one another by exchanging items that are even."""

from millhands.helpers import is_below, is_paper
from millhands.items import do_items_pass
from millhands.wefts import check_weft, is_item


def are_tied(book, item, further):
    """Whether two items are one, or not even."""
    return item == further or not do_items_pass(book, "even", item, further)


def ties_among(book, items):
    """The pairs of tied items among some, in either order, as a dict."""
    ties = {}
    names = sorted(set(list(items)))
    for at, item in enumerate(names):
        for further in names[at:]:
            if are_tied(book, item, further):
                ties[(item, further)] = True
                ties[(further, item)] = True
    return ties


def check_wefts(book, one, other):
    check_weft(book.letters, one)
    check_weft(book.letters, other)


def without_others(weft, item, further):
    """A weft without all items but two."""
    return [held for held in weft if held in (item, further)]


def first_parting(book, one, other):
    """The least pair of tied items by which two wefts are apart, None if they are moved alike."""
    pairs = sorted(ties_among(book, one + other))
    for item, further in pairs:
        if item <= further and without_others(one, item, further) != without_others(other, item, further):
            return (item, further)
    return None


def do_move(book, one, other):
    """Whether two wefts are moved alike."""
    check_wefts(book, one, other)
    return first_parting(book, one, other) is None


def judge_moved(book, one, other):
    """Any paper that two wefts are moved alike, or apart."""
    check_wefts(book, one, other)
    parting = first_parting(book, one, other)
    return ("moved", places_moved(one, other)) if parting is None else ("apart", *parting)


def places_moved(one, other):
    """Places at which items of a weft are exchanged until it is another one that is moved alike.

    Items of the other one are brought to their places one behind the other: the first like one
    further on passes all that stand between.
    """
    weft = list(one)
    places = []
    for at, item in enumerate(other):
        start = weft.index(item, at)
        for place in reversed(range(at, start)):
            weft[place], weft[place + 1] = weft[place + 1], weft[place]
            places.append(place)
    return tuple(places)


def moved_holds(book, one, other, thing):
    """Whether any value is a paper that two wefts are moved alike, or apart."""
    check_wefts(book, one, other)
    if is_paper(thing, "apart", 3):
        return is_parting(book, one, other, thing[1:])
    if not is_paper(thing, "moved", 2) or not isinstance(thing[1], tuple):
        return False
    ties = ties_among(book, one)
    weft = list(one)
    for place in thing[1]:
        if not is_below(place, len(weft) - 1) or (weft[place], weft[place + 1]) in ties:
            return False
        weft[place], weft[place + 1] = weft[place + 1], weft[place]
    return tuple(weft) == other


def is_parting(book, one, other, pair):
    """Whether two values are tied items, the lesser one first, by which two wefts are apart."""
    if not is_item(book.letters, pair[0]) or not is_item(book.letters, pair[1]) or pair[0] > pair[1]:
        return False
    if without_others(one, pair[0], pair[1]) == without_others(other, pair[0], pair[1]):
        return False
    return are_tied(book, pair[0], pair[1])


def free_places(weft, ties):
    """The places of the items that can be moved to the front of a weft, by their items."""
    places = [at for at in range(len(weft)) if not any([(held, weft[at]) in ties for held in weft[:at]])]
    return sorted(places, key=lambda at: weft[at])


def first_form(book, weft):
    """The least of all wefts that are moved alike with a weft."""
    check_weft(book.letters, weft)
    ties = ties_among(book, weft)
    form = []
    rest = weft
    while rest:
        place = free_places(rest, ties)[0]
        form.append(rest[place])
        rest = rest[:place] + rest[place + 1:]
    return tuple(form)


def steps_of(book, weft):
    """The steps of a weft: each item stands in the step behind the last one that has an item tied to it."""
    check_weft(book.letters, weft)
    ties = ties_among(book, weft)
    steps = []
    for item in weft:
        at = len(steps)
        while at > 0 and not any([(held, item) in ties for held in steps[at - 1]]):
            at -= 1
        if at == len(steps):
            steps.append([])
        steps[at].append(item)
    return tuple([tuple(sorted(step)) for step in steps])


def many_moved(book, weft):
    """How many wefts are moved alike with a weft."""
    check_weft(book.letters, weft)
    ties = ties_among(book, weft)
    # Rests of one length are counted together: each by the ways that lead to it.
    counts = {tuple(range(len(weft))): 1}
    for _ in weft:
        fresh = {}
        for rest, many in counts.items():
            for place in free_places([weft[at] for at in rest], ties):
                left = rest[:place] + rest[place + 1:]
                fresh[left] = fresh.get(left, 0) + many
        counts = fresh
    return counts[()]


def all_moved(book, weft):
    """Yields the wefts that are moved alike with a weft, ascending."""
    check_weft(book.letters, weft)
    ties = ties_among(book, weft)
    stack = [((), weft)]
    while stack:
        form, rest = stack.pop()
        if not rest:
            yield form
        for place in free_places(rest, ties)[::-1]:
            stack.append(((*form, rest[place]), rest[:place] + rest[place + 1:]))
