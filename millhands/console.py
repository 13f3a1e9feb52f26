"""The console: a mill and its gate, told what to do by commands."""

from millhands.books import Book, is_web
from millhands.errors import (BadName, BadPromise, BadText, Broken, Full, InvalidCommand, NoMill, NoName, NoWish,
                              NothingToRedo, NothingToUndo, OtherLetters, Unsound, Waits)
from millhands.gates import Gate, is_name
from millhands.helpers import ALPHABET, integer_read, is_letter
from millhands.logtexts import log_text
from millhands.mills import Mill
from millhands.reach import first_row
from millhands.tellers import ending, lone_web
from millhands.wefts import weft_read

MOST_FIGURES = 40
# For each command what its words are; of some the last one is all that is left.
FORMS = {
    "mill": ("web", "book"),
    "begin": (),
    "ask": ("number", "deed"),
    "wish": ("number",),
    "drop": ("number",),
    "in": ("number",),
    "out": ("number",),
    "web": (),
    "log": (),
    "row": ("web",),
    "put": ("name", "weft"),
    "away": ("name",),
    "bring": ("book",),
    "never": ("web", "web"),
    "back": ("web", "web"),
    "most": ("web", "number"),
    "fits": ("web", "name"),
    "names": (),
    "undo": (),
    "redo": (),
}
WHOLE = ("book", "weft")


class Console:
    """A mill and its gate, none at first."""

    def __init__(self):
        self.mill = None
        self.gate = None

    def run(self, command):
        """The answer to a command."""
        word, parts = command_read(command, ALPHABET if self.mill is None else self.mill.book_now.letters)
        if word == "mill":
            self.mill = Mill(parts[1], parts[0])
            self.gate = Gate(self.mill)
            return "ok"
        if self.mill is None:
            raise NoMill()
        if word in ("begin", "ask", "wish", "drop", "in", "out"):
            return hand_answer(self.mill, word, parts)
        if word in ("web", "log", "row", "names"):
            return told_answer(self.mill, self.gate, word, parts)
        return deed_answer(self.mill, self.gate, word, parts)


def command_read(command, letters):
    """The word of a command, and what its parts tell, webs, wefts and deeds over some letters."""
    if not isinstance(command, str) or "\n" in command:
        raise InvalidCommand()
    words = command.split(" ")
    form = FORMS.get(words[0])
    if form is None:
        raise InvalidCommand()
    if form and form[-1] in WHOLE and len(words) > len(form):
        words = [*words[:len(form)], " ".join(words[len(form):])]
    if len(words) != len(form) + 1:
        raise InvalidCommand()
    if form == ("web", "book"):
        book = part_read("book", words[2], letters)
        return words[0], [part_read("web", words[1], book.letters), book]
    return words[0], [part_read(kind, word, letters) for kind, word in zip(form, words[1:])]


def part_read(kind, word, letters):
    """What a part of a command tells."""
    part = web_read(letters, word) if kind == "web" else text_read(kind, word, letters)
    if part is None:
        raise InvalidCommand()
    return part


def web_read(letters, word):
    """The web that a word tells, None if it tells none."""
    if word == "-":
        return ""
    return word if word != "" and is_web(letters, word) else None


def text_read(kind, word, letters):
    """What a part of a command tells that is no web, None if it tells nothing."""
    if kind == "number":
        return integer_read(word) if len(word) <= MOST_FIGURES else None
    if kind == "deed":
        return word if word == "?" or is_letter(letters, word) else None
    if kind == "name":
        return word if is_name(word) else None
    try:
        return weft_read(letters, word) if kind == "weft" else Book.read(word.replace(";", "\n"))
    except BadText:
        return None


def hand_answer(mill, word, parts):
    """The answer to a command about a hand."""
    try:
        if word == "begin":
            return str(mill.begin())
        if word == "ask":
            return status_answer(mill.ask(*parts))
        if word == "wish":
            return status_answer(mill.status(*parts))
        if word == "drop":
            mill.drop(*parts)
            return "ok"
        return news_answer(mill.hand_in(*parts) if word == "in" else mill.take_out(*parts))
    except Full:
        return "full"
    except Waits:
        return "busy"
    except NoWish:
        return "no"


def status_answer(found):
    """What is said of a wish: its status in words, - if there is none."""
    if found is None:
        return "-"
    return f"told {found[1]}" if found[0] == "told" else found[0]


def news_answer(news):
    return "; ".join([f"{number} {item}" for number, item in news]) or "-"


def told_answer(mill, gate, word, parts):
    """The answer to a command that changes nothing."""
    if word == "web":
        return mill.web_now or "-"
    if word == "log":
        return log_text(mill.log_now).replace("\n", ";")
    if word == "names":
        return " ".join(gate.names()) or "-"
    row = first_row(mill.book_now, mill.web_now, parts[0])
    return "no" if row is None else (row or "-")


def deed_answer(mill, gate, word, parts):
    """The answer to a command that is done, or refused."""
    try:
        do_deed(mill, gate, word, parts)
    except (BadName, BadPromise, Broken, NoName, NothingToRedo, NothingToUndo, OtherLetters, Unsound):
        return "no"
    return "ok"


def do_deed(mill, gate, word, parts):
    if word == "undo":
        mill.undo()
    elif word == "redo":
        mill.redo()
    elif word == "put":
        gate.put(*parts)
    elif word == "away":
        gate.take_away(*parts)
    elif word == "bring":
        gate.bring(*parts)
    else:
        gate.put_promise(promise_of(mill.book_now.letters, word, parts))


def promise_of(letters, word, parts):
    """The promise that a command puts, whose start is a web alone."""
    start = lone_web(letters, parts[0])
    if word == "never":
        return (word, start, ending(letters, parts[1]))
    return (word, start, lone_web(letters, parts[1]) if word == "back" else parts[1])
