"""Long rows: readers of very many laid letters, letters that can be left out, and rows that are one again."""

from millhands.books import check_web, is_web, laid_behind
from millhands.errors import BadRow
from millhands.helpers import is_below, is_paper, is_word
from millhands.ledsets import first_apart
from millhands.readers import Reader, unchanged


def check_rows(book, *rows):
    """The first value that is no row over the letters of a book is told."""
    for row in rows:
        if not is_word(book.letters, row):
            raise BadRow(row)


def led_on(book, web, row):
    """The web to which a row leads a web, both of which are known to be right."""
    for letter in row:
        web = laid_behind(book, web, letter)
    return web


class Places:
    """What the letters of a row make from each place on, when nothing is left of what was laid ahead of it.

    A node of a reader tells it. Of each place and each last letter of a web it is told, from the
    last place on, at which place this letter is gone, or what word is left in its place; the
    latter have nodes behind those of all places.
    """

    def __init__(self, book, row):
        self.book = book
        self.row = row
        self.bare = {len(row): ""}
        self.comes = {(len(row), letter): ("stops", letter) for letter in book.letters}
        for place in reversed(range(len(row))):
            for letter in book.letters:
                self.comes[(place, letter)] = self.what_behind(place, letter)
            self.bare[place] = self.left_bare(place)

    def what_behind(self, place, letter):
        """What comes of a last letter from a place on: it is gone at a place, or a word is left."""
        left = self.book.left_of(letter, self.row[place])
        if left == "":
            return ("gone", place + 1)
        if left is not None:
            return self.comes[(place + 1, left)]
        word, found = self.comes[(place + 1, self.row[place])]
        return ("stops", letter + found) if word == "stops" else self.comes[(found, letter)]

    def left_bare(self, place):
        """What is left of a bare web from a place on."""
        word, found = self.comes[(place + 1, self.row[place])]
        return found if word == "stops" else self.bare[found]

    def least_reader(self):
        """The least reader of the row."""
        many = len(self.row) + 1
        stops = []
        nodes = []
        for place in range(many - 1):
            numbers = []
            for letter in self.book.letters:
                word, found = self.comes[(place, letter)]
                if word == "stops":
                    stops.append(("stops", found))
                numbers.append(many + len(stops) - 1 if word == "stops" else found)
            nodes.append(("reads", self.bare[place], *numbers))
        return Reader(self.book.letters, (*nodes, ("stops", ""), *stops)).least()


def row_reader(book, row):
    """The least reader of a row."""
    check_rows(book, row)
    return Places(book, row).least_reader()


def are_rows_alike(book, one, other):
    """Whether two rows lead each web to one web."""
    check_rows(book, one, other)
    return row_reader(book, one) == row_reader(book, other)


def does_nothing(book, row):
    """Whether a row leads each web to itself."""
    check_rows(book, row)
    return row_reader(book, row) == unchanged(book.letters)


def without(row, place):
    return row[:place] + row[place + 1:]


def is_idle(book, row, place):
    """Whether a row is alike without the letter at a place.

    Most letters that are not idle show it on one of few webs: readers are compared for the others alone.
    """
    further = without(row, place)
    webs = [letters * len(row) for letters in ("", *book.letters, book.letters)]
    if any([led_on(book, web, row) != led_on(book, web, further) for web in webs]):
        return False
    return are_rows_alike(book, row, further)


def idle_letters(book, row):
    """The ascending tuple of the places of the letters without which a row is alike."""
    check_rows(book, row)
    return tuple([place for place in range(len(row)) if is_idle(book, row, place)])


def plain_row(book, row):
    """A row without its first idle letter, and so on until no letter is idle."""
    check_rows(book, row)
    at = 0
    while at < len(row):
        if is_idle(book, row, at):
            row = without(row, at)
            at = 0
        else:
            at += 1
    return row


def ones(book, row):
    """The ascending tuple of the pairs of places that are one, each with the next one that is."""
    check_rows(book, row)
    pairs = []
    known = {}
    for place in range(len(row) + 1):
        nodes = row_reader(book, row[:place]).nodes
        if nodes in known:
            pairs.append((known[nodes], place))
        known[nodes] = place
    return tuple(sorted(pairs))


def one_again(book, one, other, tail):
    """The least number of letters of a tail behind which two rows are one again, None if they are not.

    Behind further letters they stay so: it is enough to halve.
    """
    check_rows(book, one, other, tail)
    if not are_rows_alike(book, one + tail, other + tail):
        return None
    low = 0
    high = len(tail)
    while low < high:
        middle = (low + high) // 2
        if are_rows_alike(book, one + tail[:middle], other + tail[:middle]):
            high = middle
        else:
            low = middle + 1
    return low


def one_again_on(book, web, one, other, tail):
    """As one_again, on a web."""
    check_rows(book, one, other, tail)
    check_web(book.letters, web)
    left = led_on(book, web, one)
    right = led_on(book, web, other)
    for many, letter in enumerate(tail):
        if left == right:
            return many
        left = laid_behind(book, left, letter)
        right = laid_behind(book, right, letter)
    return len(tail) if left == right else None


def judge_one(book, one, other, tail):
    """A paper with the least number of letters behind which two rows are one again, or with the first web apart."""
    many = one_again(book, one, other, tail)
    if many is not None:
        return ("one", many)
    return ("apart", first_apart(row_reader(book, one + tail), row_reader(book, other + tail)))


def one_holds(book, one, other, tail, thing):
    """Whether any value is a paper that two rows are one again, or are kept apart."""
    check_rows(book, one, other, tail)
    if is_paper(thing, "apart", 2):
        if not is_web(book.letters, thing[1]):
            return False
        return led_on(book, thing[1], one + tail) != led_on(book, thing[1], other + tail)
    if not is_paper(thing, "one", 2) or not is_below(thing[1], len(tail) + 1):
        return False
    return are_rows_alike(book, one + tail[:thing[1]], other + tail[:thing[1]])
