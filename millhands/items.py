"""Items of a book, and which of them pass one another."""

from itertools import combinations, permutations

from millhands.passing import do_pass, first_barred
from millhands.wefts import check_weft, reader_of


def items_of(book):
    """The ascending tuple of the items of a book: its letters, and the looks."""
    looks = ["?" + letter for letter in book.letters]
    return tuple(sorted(["?-", *looks, *book.letters]))


def item_reader(book, item):
    return reader_of(book, (item,))


def do_items_pass(book, word, item, further):
    """Whether two items pass as a word tells, on all webs."""
    return do_pass(word, item_reader(book, item), item_reader(book, further))


def item_pairs(book, word):
    """The pairs of unlike items: in either order with "ahead", otherwise the lesser one first."""
    items = list(items_of(book))
    if word == "ahead":
        return list(permutations(items, 2))
    return list(combinations(items, 2))


def barred_items(book, word):
    """The ascending tuple of the unlike items that do not pass as a word tells, with the first web that bars."""
    readers = {item: item_reader(book, item) for item in items_of(book)}
    rows = []
    for item, further in item_pairs(book, word):
        web = first_barred(word, readers[item], readers[further])
        if web is not None:
            rows.append((item, further, web))
    return tuple(sorted(rows))


def circles(book, word):
    """The ascending tuple of all circles: greatest sets of items any two unlike ones of which pass."""
    items = items_of(book)
    barred = {(item, further): True for item, further, _ in barred_items(book, word)}
    found = [()]
    # Each set of items that pass one another comes up once: by its own items, ascending.
    for item in items:
        fresh = [(*some, item) for some in found if not is_item_barred(item, some, barred)]
        found.extend(fresh)
    return tuple(sorted([some for some in found if is_greatest(some, items, barred)]))


def is_greatest(some, items, barred):
    """Whether no further item passes all of some items."""
    return all([item in some or is_item_barred(item, some, barred) for item in items])


def is_item_barred(item, some, barred):
    return any([(item, other) in barred or (other, item) in barred for other in some])


def do_wefts_pass(book, word, one, other):
    """Whether each item of the one weft passes, as a word tells, with each item of the other."""
    check_weft(book.letters, one)
    check_weft(book.letters, other)
    pairs = {(item, further): True for item in one for further in other}
    return all([do_items_pass(book, word, item, further) for item, further in pairs])
