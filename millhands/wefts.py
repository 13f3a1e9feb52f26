"""Wefts: laid letters and looks, done one behind the other."""

from millhands.books import check_web, laid_behind
from millhands.errors import BadText, BadWeft
from millhands.helpers import is_letter
from millhands.readers import Reader


def is_item(letters, thing):
    """Whether any value is an item over some letters."""
    if not isinstance(thing, str):
        return False
    return is_letter(letters, thing) or thing == "?-" or (thing[:1] == "?" and is_letter(letters, thing[1:]))


def is_weft(letters, thing):
    """Whether any value is a weft over some letters."""
    return isinstance(thing, tuple) and all([is_item(letters, item) for item in thing])


def check_weft(letters, thing):
    if not is_weft(letters, thing):
        raise BadWeft(thing)


def weft_text(weft):
    """The text of a weft."""
    return " ".join(weft) or "-"


def weft_read(letters, text):
    """The weft with a text."""
    if not isinstance(text, str):
        raise BadText(0)
    weft = () if text == "-" else tuple(text.split(" "))
    if not is_weft(letters, weft):
        raise BadText(0)
    return weft


def does_see(item, web):
    """Whether a look sees what it tells, the last letter or a bare web."""
    return item[1] == (web[-1] if web else "-")


def run_on(book, weft, web):
    """The web that comes of a weft, and the place of the first look that does not see what it tells, or None."""
    for place, item in enumerate(weft):
        if len(item) == 1:
            web = laid_behind(book, web, item)
        elif not does_see(item, web):
            return web, place
    return web, None


def gone_on(book, weft, place, web, is_bare):
    """How far a weft goes from a place on, and what is left of its letters and the last ones read, web.

    It stops where nothing is left and the next item has to see what is beneath, unless this is
    known to be nothing; the place is -1 if a look does not see what it tells.
    """
    while place < len(weft) and (web != "" or is_bare):
        if len(weft[place]) == 1:
            web = laid_behind(book, web, weft[place])
        elif not does_see(weft[place], web):
            return -1, web
        place += 1
    return place, web


def fits_web(book, weft, web):
    """Whether what is known to be a weft fits what is known to be a web."""
    return run_on(book, weft, web)[1] is None


def done(book, weft, web):
    """The web that a weft leaves, None if it does not fit."""
    check_weft(book.letters, weft)
    check_web(book.letters, web)
    left, place = run_on(book, weft, web)
    return left if place is None else None


def fails_at(book, weft, web):
    """The place of the first look that does not see what it tells, None if the weft fits."""
    check_weft(book.letters, weft)
    check_web(book.letters, web)
    return run_on(book, weft, web)[1]


def reader_of(book, weft):
    """The least reader of a weft.

    There is a node for each place: what the items from there on make of a web when nothing is
    left of what was laid. Letters that were read and still stand are kept in words alone.
    """
    check_weft(book.letters, weft)
    nodes = [("reads", None) for _ in weft]
    nodes.append(("stops", ""))
    for place in range(len(weft)):
        left, failed = run_on(book, weft[place:], "")
        numbers = [place_behind(book, weft, place, letter, nodes) for letter in book.letters]
        nodes[place] = ("reads", None if failed is not None else left, *numbers)
    return Reader(book.letters, tuple(nodes)).least()


def place_behind(book, weft, place, letter, nodes):
    """The number of the node behind a letter that is read at a place; nodes that do not read are put behind all."""
    web = letter
    for at in range(place, len(weft)):
        # Where all is gone again, the place tells what comes.
        if web == "":
            return at
        if len(weft[at]) == 1:
            web = laid_behind(book, web, weft[at])
        elif not does_see(weft[at], web):
            nodes.append(("none",))
            return len(nodes) - 1
    nodes.append(("stops", web))
    return len(nodes) - 1
