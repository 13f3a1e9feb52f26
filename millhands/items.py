"""Items of a book, and which of them pass one another."""

from itertools import combinations, permutations

from millhands.books import laid_behind
from millhands.wefts import check_weft, does_see


def items_of(book):
    """The ascending tuple of the items of a book: its letters, and the looks."""
    looks = ["?" + letter for letter in book.letters]
    return tuple(sorted(["?-", *looks, *book.letters]))


def item_left(book, item, web):
    """The web that an item leaves of a web, None if it does not fit."""
    if len(item) == 1:
        return laid_behind(book, web, item)
    return web if does_see(item, web) else None


def telling_webs(book, item, further):
    """The webs that tell whether two items pass, in order.

    Two items see no more than two letters, and the one ahead of the last letter only where one of
    them lets this go: on further webs they do what they do on the last letter of these alone.
    """
    gone = [last for last in book.letters if "" in (book.left_of(last, item), book.left_of(last, further))]
    return ["", *book.letters] + [letter + last for letter in book.letters for last in gone]


def does_bar(book, word, item, further, web):
    """Whether two items do not pass as a word tells on a web."""
    one = item_left(book, item, web)
    other = item_left(book, further, web)
    onward = None if one is None else item_left(book, further, one)
    backward = None if other is None else item_left(book, item, other)
    if word == "even":
        return onward != backward
    if word == "ahead":
        return backward is not None and onward != backward
    # Where both fit the web it is not enough that neither order fits.
    return one is not None and other is not None and (onward is None or onward != backward)


def first_barring(book, word, item, further):
    """The first web on which two items do not pass as a word tells, None if there is none."""
    for web in telling_webs(book, item, further):
        if does_bar(book, word, item, further, web):
            return web
    return None


def do_items_pass(book, word, item, further):
    """Whether two items pass as a word tells, on all webs."""
    check_weft(book.letters, (item,))
    check_weft(book.letters, (further,))
    return first_barring(book, word, item, further) is None


def item_pairs(book, word):
    """The pairs of unlike items: in either order with "ahead", otherwise the lesser one first."""
    items = list(items_of(book))
    if word == "ahead":
        return list(permutations(items, 2))
    return list(combinations(items, 2))


def barred_items(book, word):
    """The ascending tuple of the unlike items that do not pass as a word tells, with the first web that bars."""
    rows = []
    for item, further in item_pairs(book, word):
        web = first_barring(book, word, item, further)
        if web is not None:
            rows.append((item, further, web))
    return tuple(sorted(rows))


def circles(book, word):
    """The ascending tuple of all circles: greatest sets of items any two unlike ones of which pass."""
    items = items_of(book)
    barred = {(item, further): True for item, further, _ in barred_items(book, word)}
    found = [()]
    # Each set of items that pass one another comes up once: by its own items, ascending.
    for item in items:
        fresh = [(*some, item) for some in found if not is_item_barred(item, some, barred)]
        found.extend(fresh)
    return tuple(sorted([some for some in found if is_greatest(some, items, barred)]))


def is_greatest(some, items, barred):
    """Whether no further item passes all of some items."""
    return all([item in some or is_item_barred(item, some, barred) for item in items])


def is_item_barred(item, some, barred):
    return any([(item, other) in barred or (other, item) in barred for other in some])


def do_wefts_pass(book, word, one, other):
    """Whether each item of the one weft passes, as a word tells, with each item of the other."""
    check_weft(book.letters, one)
    check_weft(book.letters, other)
    pairs = {(item, further): True for item in one for further in other}
    return all([do_items_pass(book, word, item, further) for item, further in pairs])
