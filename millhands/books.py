"""Books, webs, and letters that are laid on them."""

from millhands.errors import BadBook, BadText, BadWeb
from millhands.helpers import is_letter, is_letters, is_word, text_parts


class Book:
    """What becomes of a letter that is laid beside the last one of a web."""

    def __init__(self, letters, folds):
        if not is_letters(letters):
            raise BadBook("letters")
        if not isinstance(folds, tuple):
            raise BadBook("folds")
        table = {}
        ahead = ("", "")
        for number, fold in enumerate(folds):
            if not is_fold(letters, fold) or fold[:2] <= ahead:
                raise BadBook(number)
            ahead = fold[:2]
            table[ahead] = fold[2]
        self.letters = letters
        self.folds = folds
        self.table = table

    def __len__(self):
        return len(self.letters)

    def __eq__(self, other):
        return isinstance(other, Book) and self.letters == other.letters and self.folds == other.folds

    def __str__(self):
        lines = [f"fold {last} {laid} {left or '-'}" for last, laid, left in self.folds]
        return "\n".join([f"book {self.letters}", *lines])

    @classmethod
    def read(cls, text):
        """The book with this text."""
        letters, lines = text_parts("book", text)
        folds = []
        for line in lines:
            fold = fold_read(letters, line)
            if fold is None or (folds and fold[:2] <= folds[-1][:2]):
                raise BadText(len(folds) + 2)
            folds.append(fold)
        return cls(letters, tuple(folds))

    def left_of(self, last, laid):
        """What a fold leaves of a last letter and one that is laid beside it, None if there is none."""
        return self.table.get((last, laid))


def is_fold(letters, thing):
    """Whether any value is a fold over some letters."""
    if not isinstance(thing, tuple) or len(thing) != 3:
        return False
    if not is_letter(letters, thing[0]) or not is_letter(letters, thing[1]):
        return False
    return is_letter(letters, thing[2]) or (isinstance(thing[2], str) and thing[2] == "")


def fold_read(letters, line):
    """The fold that a line tells, None if it tells none."""
    words = line.split(" ")
    if len(words) != 4 or words[0] != "fold":
        return None
    fold = (words[1], words[2], "" if words[3] == "-" else words[3])
    # An empty word is no dash: only the dash stands for nothing left.
    return fold if words[3] != "" and is_fold(letters, fold) else None


def is_web(letters, thing):
    """Whether any value is a web over some letters."""
    return is_word(letters, thing)


def is_ahead(one, other):
    """Whether a string is ahead of another one: a shorter one is, of one length as Python compares."""
    return (len(one), one) < (len(other), other)


def check_web(letters, thing):
    if not is_web(letters, thing):
        raise BadWeb(thing)


def laid_on(book, web, letter):
    """The web that comes of a letter that is laid on a web."""
    check_web(book.letters, web)
    return laid_behind(book, web, letter)


def led(book, web, row):
    """The web to which a row leads a web."""
    check_web(book.letters, web)
    check_web(book.letters, row)
    for letter in row:
        web = laid_behind(book, web, letter)
    return web


def laid_behind(book, web, letter):
    """As laid_on, for what is known to be a web."""
    left = book.left_of(web[-1], letter) if web else None
    return web + letter if left is None else web[:-1] + left
