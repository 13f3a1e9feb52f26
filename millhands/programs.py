"""Programs: places with letters to be laid, looks, and stops, gone through on a web."""

from millhands.books import check_web
from millhands.errors import BadProgram, TooLong
from millhands.helpers import (check_same_letters, has_head, is_below, is_letter, nodes_read, numbers_read, wrong_part)
from millhands.wefts import check_weft

MOST_PLACES = 999


class Program:
    """Deeds at places that are numbered from 0 on."""

    def __init__(self, letters, deeds):
        part = wrong_part(letters, deeds, is_deed, "deeds", MOST_PLACES)
        if part is not None:
            raise BadProgram(part)
        self.letters = letters
        self.deeds = deeds

    def __len__(self):
        return len(self.deeds)

    def __eq__(self, other):
        return isinstance(other, Program) and self.letters == other.letters and self.deeds == other.deeds

    def __str__(self):
        lines = [deed_line(deed) for deed in self.deeds]
        return "\n".join([f"program {self.letters}", *lines])

    @classmethod
    def read(cls, text):
        """The program with this text."""
        letters, deeds = nodes_read("program", text, deed_read, MOST_PLACES)
        return cls(letters, deeds)


def is_deed(letters, deed, many):
    """Whether any value is a deed of a program with so many places."""
    if not has_head(deed):
        return False
    if deed[0] == "lay":
        return len(deed) == 3 and is_letter(letters, deed[1]) and is_below(deed[2], many)
    if deed[0] == "look":
        return len(deed) == 2 and are_places(deed[1], len(letters) + 1, many)
    return deed[0] == "stop" and len(deed) == 1


def are_places(thing, length, many):
    """Whether any value is a tuple of so many places of a program."""
    return isinstance(thing, tuple) and len(thing) == length and all([is_below(place, many) for place in thing])


def deed_line(deed):
    """The line of a deed in a text."""
    if deed[0] == "lay":
        return f"lay {deed[1]} {deed[2]}"
    if deed[0] == "look":
        words = [str(place) for place in deed[1]]
        return " ".join(["look", *words])
    return "stop"


def deed_read(letters, line, many):
    """The deed that a line tells, None if it tells none."""
    words = line.split(" ")
    if words == ["stop"]:
        return ("stop",)
    if words[0] == "lay" and len(words) == 3:
        place = numbers_read(words[2:], many)
        deed = None if place is None else ("lay", words[1], place[0])
    else:
        deed = (words[0], numbers_read(words[1:], many))
    return deed if is_deed(letters, deed, many) else None


def place_seen(letters, places, seen):
    """The place at which a look goes on that sees a letter, or "" for a bare web."""
    return places[letters.find(seen) + 1] if seen else places[0]


def run(book, program, web, *, most=2000):
    """The weft of the run of a program on a web, and the web that it leaves."""
    check_same_letters(book.letters, [program.letters])
    check_web(book.letters, web)
    stack = list(web)
    weft = []
    place = 0
    while program.deeds[place][0] != "stop":
        if len(weft) >= most:
            raise TooLong(most)
        deed = program.deeds[place]
        if deed[0] == "look":
            seen = stack[-1] if stack else ""
            weft.append("?" + (seen or "-"))
            place = place_seen(book.letters, deed[1], seen)
            continue
        weft.append(deed[1])
        lay_on(book, stack, deed[1])
        place = deed[2]
    return tuple(weft), "".join(stack)


def lay_on(book, stack, letter):
    """Lays a letter on a web whose letters stand in a list."""
    left = book.left_of(stack[-1], letter) if stack else None
    if left is None:
        stack.append(letter)
    elif left == "":
        stack.pop()
    else:
        stack[-1] = left


def program_of(letters, weft):
    """A program that makes what a weft makes, and goes on for ever where it does not fit."""
    check_weft(letters, weft)
    many = len(weft)
    deeds = item_deeds(letters, weft, many, many + 1)
    return Program(letters, (*deeds, ("stop",), endless_look(letters, many + 1)))


def item_deeds(letters, weft, behind, otherwise):
    """A deed for each item of a weft, the last one going on at behind, a look that sees another thing otherwise."""
    deeds = []
    for place, item in enumerate(weft):
        further = place + 1 if place + 1 < len(weft) else behind
        if len(item) == 1:
            deeds.append(("lay", item, further))
            continue
        places = [further if item[1] == seen else otherwise for seen in "-" + letters]
        deeds.append(("look", tuple(places)))
    return deeds


def endless_look(letters, place):
    """A look that goes on at one place, whatever it sees."""
    return ("look", tuple([place for _ in "-" + letters]))
