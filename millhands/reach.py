"""Which letters go, are turned and built, and which webs reach which."""

from millhands.books import check_web, is_ahead, led
from millhands.helpers import is_ascending, is_below, is_paper, is_word


def turning_rows(book, letter):
    """For each letter into which a letter can be turned the first row that does it, from itself on."""
    rows = {letter: ""}
    queue = [letter]
    at = 0
    while at < len(queue):
        last = queue[at]
        at += 1
        for laid in book.letters:
            left = book.left_of(last, laid)
            # What comes earlier in the queue has rows ahead of the later ones: the first one found stays.
            if left and left not in rows:
                rows[left] = rows[last] + laid
                queue.append(left)
    return rows


def can_go(book, letter):
    return going_row(book, letter) is not None


def going_row(book, letter):
    """The first going row of a letter, None if there is none."""
    best = None
    for last, row in turning_rows(book, letter).items():
        for laid in book.letters:
            if book.left_of(last, laid) == "" and (best is None or is_ahead(row + laid, best)):
                best = row + laid
    return best


def judge_going(book, letter):
    """Any paper that a letter goes, or that it stays."""
    row = going_row(book, letter)
    return ("stays", turned_into(book, letter)) if row is None else ("goes", row)


def going_holds(book, letter, thing):
    """Whether any value is a paper about a letter that goes or stays."""
    if is_paper(thing, "goes", 2):
        return is_word(book.letters, thing[1]) and does_row_go(book, letter, thing[1])
    if is_paper(thing, "stays", 2):
        return is_word(book.letters, thing[1]) and does_lot_stay(book, letter, thing[1])
    return False


def does_row_go(book, letter, row):
    """Whether each letter of a row turns what stands there, and the last one lets both go."""
    standing = letter
    for laid in row:
        if standing == "":
            return False
        standing = book.left_of(standing, laid)
        if standing is None:
            return False
    return standing == ""


def does_lot_stay(book, letter, lot):
    """Whether an ascending lot has a letter, and no fold lets one of it go or turns it into another one."""
    if not is_ascending(lot) or letter not in lot:
        return False
    return all([left != "" and left in lot for last, _, left in book.folds if last in lot])


def turned_into(book, letter):
    """The ascending string of the letters into which a letter can be turned."""
    return "".join(sorted(turning_rows(book, letter)))


def built_on(book, last):
    """The ascending string of the letters that can be built on a letter, or on a bare web."""
    return "".join(sorted(building_rows(book, last)))


def building_rows(book, last):
    """For each letter that can be built on a letter, or on "", the first row that does it."""
    rows = {}
    for laid in book.letters:
        if last != "" and book.left_of(last, laid) is not None:
            continue
        for letter, row in turning_rows(book, laid).items():
            if letter not in rows or is_ahead(laid + row, rows[letter]):
                rows[letter] = laid + row
    return rows


def check_webs(book, web, other):
    check_web(book.letters, web)
    check_web(book.letters, other)


def levels_of(web, other):
    return list(range(min(len(web), len(other)) + 1))


def row_at(book, web, other, level):
    """The first row that leads a web to another one at a level, None if none does.

    What is put on top and taken off again never helps, so the parts of a row stand for
    themselves: letters go from the end on, one is turned, the others are built.
    """
    if web[:max(level - 1, 0)] != other[:max(level - 1, 0)]:
        return None
    parts = [going_row(book, letter) for letter in web[level:][::-1]]
    if level > 0:
        parts.append(turning_rows(book, web[level - 1]).get(other[level - 1]))
    for place in range(level, len(other)):
        parts.append(building_rows(book, letter_ahead(other, place)).get(other[place]))
    return None if None in parts else "".join(parts)


def letter_ahead(web, place):
    """The letter ahead of a place of a web, "" if there is none."""
    return web[place - 1] if place > 0 else ""


def can_reach(book, web, other):
    return first_row(book, web, other) is not None


def first_row(book, web, other):
    """The first row that leads a web to another one, None if there is none."""
    check_webs(book, web, other)
    best = None
    for level in levels_of(web, other):
        row = row_at(book, web, other, level)
        if row is not None and (best is None or is_ahead(row, best)):
            best = row
    return best


def judge_reach(book, web, other):
    """A paper with the first row that leads a web to another one, or with reasons why none does."""
    row = first_row(book, web, other)
    if row is not None:
        return ("reach", row)
    return ("barred", tuple([reason_at(book, web, other, level) for level in levels_of(web, other)]))


def reason_at(book, web, other, level):
    """Any reason why a web does not reach another one at a level."""
    reasons = [("apart", place) for place in range(level - 1)]
    reasons.extend([("stays", place) for place in range(level, len(web))])
    reasons.append(("turn", level - 1))
    reasons.extend([("build", place) for place in range(level, len(other))])
    return next((reason for reason in reasons if is_reason(book, web, other, level, reason)), None)


def is_reason(book, web, other, level, thing):
    """Whether any value is a reason why a web does not reach another one at a level."""
    if not isinstance(thing, tuple) or len(thing) != 2 or not isinstance(thing[0], str):
        return False
    word, place = thing
    if not is_below(place, max(len(web), len(other))):
        return False
    if word == "apart":
        return place < level - 1 and web[place] != other[place]
    if word == "stays":
        return level <= place < len(web) and not can_go(book, web[place])
    if word == "turn":
        return place == level - 1 and other[place] not in turned_into(book, web[place])
    if word == "build":
        return level <= place < len(other) and other[place] not in built_on(book, letter_ahead(other, place))
    return False


def reach_holds(book, web, other, thing):
    """Whether any value is a paper that a web reaches another one, or is barred from it."""
    check_webs(book, web, other)
    if is_paper(thing, "reach", 2):
        return is_word(book.letters, thing[1]) and led(book, web, thing[1]) == other
    if not is_paper(thing, "barred", 2) or not isinstance(thing[1], tuple):
        return False
    levels = levels_of(web, other)
    if len(thing[1]) != len(levels):
        return False
    return all([is_reason(book, web, other, level, reason) for level, reason in zip(levels, thing[1])])


def settled(book, web):
    """The number of letters of the longest beginning of a web that no row changes."""
    check_web(book.letters, web)
    left = len(web)
    while left > 0 and can_go(book, web[left - 1]):
        left -= 1
    if left > 0 and turned_into(book, web[left - 1]) != web[left - 1]:
        left -= 1
    return left
