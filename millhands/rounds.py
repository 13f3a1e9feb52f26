"""Rounds: a weft that is done again and again comes round, or goes on to ever unlike readers."""

from math import lcm

from millhands.books import is_web
from millhands.errors import TooMany
from millhands.helpers import are_same, is_letter, is_number, is_paper
from millhands.programs import Program, endless_look, item_deeds
from millhands.tables import Runs
from millhands.wefts import check_weft, run_on

GREATEST = 5000


def wheel(letters, weft):
    """The program that does the items of a weft again and again as long as they fit."""
    check_weft(letters, weft)
    deeds = item_deeds(letters, weft, 0, len(weft))
    return Program(letters, (*deeds, endless_look(letters, len(weft))))


def wheel_runs(book, weft):
    return Runs(book, wheel(book.letters, weft))


def ways_beneath(runs, start):
    """For each place at which runs from a place on come out beneath the first word that they eat on the way."""
    ways = {}
    level = {start: ""}
    while level:
        fresh = {}
        for place, word in level.items():
            for letter in runs.letters:
                what = runs.whats[(place, letter)]
                if what[0] == "beneath" and what[1] not in ways:
                    ways[what[1]] = letter + word
                    fresh[what[1]] = letter + word
        level = fresh
    return ways


def place_beneath(runs, start, web):
    """The place at which a run from a place on is when it has eaten a whole web, None if it does not eat it."""
    place = start
    for letter in web[::-1]:
        what = runs.whats[(place, letter)]
        if what[0] != "beneath":
            return None
        place = what[1]
    return place


def endless_paper(runs):
    """Any paper that rounds eat ever more, or leave ever more; None if they do neither."""
    ways = ways_beneath(runs, 0)
    ways[0] = ""
    for place, ahead in ways.items():
        ring = ways_beneath(runs, place).get(place)
        if ring is not None:
            return ("down", ahead, ring)
    for place, ahead in ways.items():
        for seen in ("", *runs.letters):
            if runs.climbs((place, seen)):
                return ("up", ahead, seen, *runs.track_from((place, seen)))
    return None


def end_webs(runs):
    """The webs of which rounds read all: on each further web they do what they do on that one with which it ends.

    A bare web is such a web for itself alone.
    """
    webs = []
    stack = [(0, "")]
    while stack:
        place, ahead = stack.pop()
        webs.append(ahead)
        for letter in runs.letters:
            what = runs.whats[(place, letter)]
            if what[0] == "beneath":
                stack.append((what[1], letter + ahead))
            else:
                webs.append(letter + ahead)
    return webs


def least_pair(book, weft, runs, most):
    """The least first and around of a weft that comes round, None if together they are more than most."""
    # Behind a round that does not fit there is nothing, round for round.
    pairs = {None: (0, 1)}
    first = 0
    around = 1
    for web in end_webs(runs):
        note_rounds(book, weft, web, pairs, most)
        if web not in pairs:
            return None
        first = max(first, pairs[web][0])
        around = lcm(around, pairs[web][1])
        if first + around > most:
            return None
    return first, around


def note_rounds(book, weft, web, pairs, most):
    """Notes the pairs of a web and of those that rounds make of it; of none if they need more than most rounds."""
    places = {}
    while web not in pairs and web not in places:
        if len(places) > most:
            return
        places[web] = len(places)
        left, failed = run_on(book, weft, web)
        web = left if failed is None else None
    if web in places:
        first, around = places[web], len(places) - places[web]
    else:
        first, around = len(places) + pairs[web][0], pairs[web][1]
    for held, place in places.items():
        pairs[held] = (max(first - place, 0), around)


def judge_rounds(book, weft, *, most=2000):
    """Any paper that a weft comes round, with the least pair of numbers, or that it does not."""
    check_weft(book.letters, weft)
    runs = wheel_runs(book, weft)
    paper = endless_paper(runs) if weft else None
    if paper is not None:
        return paper
    pair = least_pair(book, weft, runs, most)
    if pair is None:
        raise TooMany(most)
    return ("rounds", *pair)


def rounds_hold(book, weft, thing):
    """Whether any value is a paper that a weft comes round, or that it does not."""
    check_weft(book.letters, weft)
    runs = wheel_runs(book, weft)
    if is_paper(thing, "rounds", 3):
        return is_number(thing[1]) and is_number(thing[2]) and is_pair(book, weft, runs, thing[1], thing[2])
    if weft and is_paper(thing, "down", 3):
        return is_web(book.letters, thing[1]) and is_web(book.letters, thing[2]) and is_down(runs, thing[1], thing[2])
    if not weft or not is_paper(thing, "up", 5) or not is_web(book.letters, thing[1]):
        return False
    if not is_letter(book.letters, thing[2]) and not are_same(thing[2], ""):
        return False
    place = place_beneath(runs, 0, thing[1])
    if place is None or not runs.climbs((place, thing[2])):
        return False
    return are_same(thing[3:], runs.track_from((place, thing[2])))


def is_pair(book, weft, runs, first, around):
    """Whether readers of n rounds and of around more are equal for each n from first on."""
    if first < 0 or around < 1 or (weft and endless_paper(runs) is not None):
        return False
    pair = least_pair(book, weft, runs, min(first + around, GREATEST))
    return pair is not None and first >= pair[0] and around % pair[1] == 0


def is_down(runs, ahead, ring):
    """Whether rounds that have eaten a web eat a ring behind it, and are at the same place then."""
    place = place_beneath(runs, 0, ahead)
    return place is not None and ring != "" and place_beneath(runs, place, ring) == place
