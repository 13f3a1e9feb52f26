"""Webs along a row, where their letters come from, and weavings, whose rows are changed anywhere."""

from millhands.books import check_web, laid_behind
from millhands.errors import BadPlace, BadRow, NothingToUndo
from millhands.helpers import is_below, is_word
from millhands.longrows import check_rows

MOST_LETTERS = 200


def check_woven(book, web, row):
    check_web(book.letters, web)
    check_rows(book, row)


def webs_behind(book, web, row):
    """The list of the webs behind all places of a row, the web ahead of it first."""
    webs = [web]
    for letter in row:
        webs.append(laid_behind(book, webs[-1], letter))
    return webs


def webs_along(book, web, row):
    """The tuple of the webs behind all places of a row."""
    check_woven(book, web, row)
    return tuple(webs_behind(book, web, row))


def told_along(book, web, row):
    """What each letter of a row does, and where each letter of the last web comes from, both as lists."""
    found = []
    standing = [(letter, ("web", at)) for at, letter in enumerate(web)]
    for at, laid in enumerate(row):
        left = book.left_of(standing[-1][0], laid) if standing else None
        if left is None:
            found.append(("stands",))
            standing.append((laid, ("lay", at)))
            continue
        _, source = standing.pop()
        found.append(("turns" if left else "goes", source))
        if left:
            standing.append((left, ("lay", at)))
    return found, [source for _, source in standing]


def events(book, web, row):
    """The tuple that tells of each letter of a row what it does."""
    check_woven(book, web, row)
    return tuple(told_along(book, web, row)[0])


def sources(book, web, row):
    """The tuple that tells of each letter of the last web where it comes from."""
    check_woven(book, web, row)
    return tuple(told_along(book, web, row)[1])


class Weaving:
    """A book, a web, and a row that is changed anywhere, with the webs behind all places."""

    def __init__(self, book, web, row):
        check_woven(book, web, row)
        self.book = book
        self.web = web
        self.row = row
        self.webs = webs_behind(book, web, row)
        # The rows and webs ahead of the changes that are not taken back.
        self.before = []

    def __len__(self):
        return len(self.row)

    @property
    def row_now(self):
        return self.row

    @property
    def web_now(self):
        return self.webs[-1]

    def web_at(self, place):
        """The web behind a place."""
        self.check_place(place, 0)
        return self.webs[place]

    def check_place(self, thing, least):
        if not is_below(thing, len(self.webs)) or thing < least:
            raise BadPlace(thing)

    def change(self, start, end, letters):
        """Puts letters in the place of those from start to end.

        Returns the greatest number of letters behind end such that the web ahead of so many letters
        at the end is as it was, -1 if there is none.
        """
        self.check_place(start, 0)
        self.check_place(end, start)
        if not is_word(self.book.letters, letters) or len(self.row) - end + start + len(letters) > MOST_LETTERS:
            raise BadRow(letters)
        self.before.append((self.row, self.webs))
        webs = self.webs[:start] + webs_behind(self.book, self.webs[start], letters)
        left = self.row[end:]
        # As soon as a web is as it was, all further ones are.
        while left and webs[-1] != self.webs[len(self.row) - len(left)]:
            webs.append(laid_behind(self.book, webs[-1], left[0]))
            left = left[1:]
        place = len(self.row) - len(left)
        many = len(left) if webs[-1] == self.webs[place] else -1
        self.row = self.row[:start] + letters + self.row[end:]
        self.webs = webs + self.webs[place + 1:]
        return many

    def undo(self):
        """Takes the last change back that is not taken back."""
        if not self.before:
            raise NothingToUndo()
        self.row, self.webs = self.before.pop()
