"""What the tests share: the books of the document, wrong values, and seeded choices."""

from itertools import product
from random import Random

from millhands.answers import status
from millhands.books import Book
from millhands.duels import Duel
from millhands.fans import Fan
from millhands.logs import handed, with_item
from millhands.programs import Program
from millhands.readers import Reader
from millhands.tellers import Teller

POP = Book("abx", (("a", "x", ""), ("b", "x", "")))
TURN = Book("ab", (("a", "b", "b"), ("b", "a", "a")))
PAIRS = Book("ab", (("a", "a", ""), ("b", "b", "")))
MARKS = Book("am", (("m", "m", "m"),))
PLAIN = Book("ab", ())
BRACKETS = Book("ab", (("a", "b", ""),))
ONE = Book("a", (("a", "a", ""),))
BOOKS = (POP, TURN, PAIRS, MARKS, PLAIN, BRACKETS, ONE)
X = Reader("abx", (("reads", "x", 1, 1, 2), ("stops", ""), ("stops", "xx")))
WRONG = (None, True, False, 0, 1, -1, 10 ** 39, "", "?", "a", "A", "ba", "aa", " ", "a\nb", (), ("a",), (1,), (True,), [],
         ["a"], {}, {"a": 1}, ((),), ((0, 0),), ((), ()), POP, X, Teller("ab", (("says", True),)),
         Fan("ab", (("stops", ()),)), ("none",), ("stops", ""), (("stops", ""),), [("stops", "")], "~", "book a",
         ((((((((((((),),),),),),),),),),),))


def webs_to(letters, length):
    """All webs of at most so many letters, in order."""
    return ["".join(web) for many in range(length + 1) for web in product(letters, repeat=many)]


def some_web(random, letters, length):
    return "".join(random.choice(letters) for _ in range(random.randint(0, length)))


def some_book(random, letters):
    folds = []
    for last in letters:
        for laid in letters:
            kind = random.random()
            if kind < 0.35:
                folds.append((last, laid, ""))
            elif kind < 0.6:
                folds.append((last, laid, random.choice(letters)))
    return Book(letters, tuple(folds))


def some_next(random, many, letters):
    return tuple(random.randrange(many) for _ in letters)


def some_reader(random, letters, many, length=3):
    nodes = []
    for _ in range(many):
        kind = random.random()
        if kind < 0.6:
            bare = None if random.random() < 0.3 else some_web(random, letters, length)
            nodes.append(("reads", bare) + some_next(random, many, letters))
        else:
            nodes.append(("stops", some_web(random, letters, length)) if kind < 0.9 else ("none",))
    return Reader(letters, tuple(nodes))


def some_ends(random, letters, many):
    nodes = []
    for _ in range(many):
        value = random.random() < 0.5
        nodes.append(("reads", value) + some_next(random, many, letters) if random.random() < 0.8 else ("says", value))
    return Teller(letters, tuple(nodes))


def some_words(random, letters, length=3, most=3):
    return tuple(sorted({some_web(random, letters, length) for _ in range(random.randint(0, most))}))


def some_fan(random, letters, many):
    nodes = []
    for at in range(many):
        words = some_words(random, letters)
        if at + 1 < many and random.random() < 0.8:
            nodes.append(("reads", words) + tuple(random.randrange(at + 1, many) for _ in letters))
        else:
            nodes.append(("stops", words))
    return Fan(letters, tuple(nodes))


def some_weft(random, letters, most):
    looks = ["?" + letter for letter in letters + "-"]
    return tuple(random.choice(list(letters) + looks) for _ in range(random.randint(0, most)))


def some_log(random, letters, lots, items):
    """A log of so many lots, and at most so many items together."""
    log = []
    for number in range(lots):
        earlier = tuple(ahead for ahead in range(number) if random.random() < 0.2)
        log.append((number, random.random() < 0.4, earlier, some_weft(random, letters, items // lots)))
    return tuple(log)


def some_program(random, letters, many):
    deeds = []
    for _ in range(many):
        kind = random.random()
        if kind < 0.55:
            deeds.append(("lay", random.choice(letters), random.randrange(many)))
        elif kind < 0.88:
            deeds.append(("look", tuple(random.randrange(many) for _ in range(len(letters) + 1))))
        else:
            deeds.append(("stop",))
    return Program(letters, tuple(deeds))


def some_shelf(random, letters, most=4):
    """A shelf of at most so many wefts, of at most 4 items each and 8 together."""
    left = 8
    shelf = []
    for _ in range(random.randint(1, most)):
        weft = some_weft(random, letters, min(4, left))
        if random.random() < 0.4:
            weft = tuple(random.choice(letters) for _ in weft)
        left -= len(weft)
        shelf.append(weft)
    return tuple(shelf)


def some_turn(random, letters, many, most):
    """A turn of a duel of so many turns, with at most so many moves."""
    laid = sorted(random.sample(letters, random.randint(1, min(most, len(letters)))))
    return random.randint(0, 1), tuple((letter, random.randrange(many)) for letter in laid)


def some_duel(random, letters, many, most=3):
    return Duel(letters, tuple(some_turn(random, letters, many, most) for _ in range(many)))


def some_goal(random, letters):
    return ("bare",) if random.random() < 0.4 else ("last", random.choice(letters))


def steps_by_hand(book, program, web, most):
    """Yields the place, the web, and the item of each step of a run, and at last those of a stop, with None."""
    place = 0
    for _ in range(most):
        deed = program.deeds[place]
        if deed[0] == "stop":
            yield place, web, None
            return
        if deed[0] == "look":
            yield place, web, "?" + (web[-1:] or "-")
            place = deed[1][1 + book.letters.index(web[-1]) if web else 0]
        else:
            yield place, web, deed[1]
            left = book.left_of(web[-1:], deed[1])
            web = web + deed[1] if left is None else web[:-1] + left
            place = deed[2]


def told_log(random, book, web, lots=4, items=6, lays=3):
    """A log that is sound on a web: of what its hands ask by turns only what can be told there is told."""
    log = tuple((at, False, tuple(ahead for ahead in range(at) if random.random() < 0.3), ()) for at in range(lots))
    for _ in range(4 * items):
        still = [lot[0] for lot in log if not lot[1]]
        told = [item for lot in log for item in lot[3]]
        number = random.choice(still)
        if len(still) > 3 or (len(still) > 1 and random.random() < 0.1):
            log = handed(log, number)
            continue
        laid = len([item for item in told if len(item) == 1])
        found = status(book, log, (number, random.choice(book.letters + "??") if laid < lays else "?"), web)
        if len(told) < items and found[0] == "told":
            log = with_item(log, number, found[1])
    return log


def raised(kind, call):
    """The error of a kind that a call raises; any other one goes on."""
    try:
        call()
    except kind as error:
        return error
    raise AssertionError(kind)


def seeded(number):
    return Random(number)


def altered(thing):
    """Values that come of a value by another part somewhere, by one left out, one more, or a list for a tuple."""
    yield from [None, 1, True, "q", (), [thing]]
    if isinstance(thing, tuple):
        yield list(thing)
        yield thing + (0,)
        yield thing + thing[-1:]
        for at in range(len(thing)):
            yield thing[:at] + thing[at + 1:]
            for part in altered(thing[at]):
                yield thing[:at] + (part,) + thing[at + 1:]
    elif isinstance(thing, str):
        yield thing + "z"
        yield thing[:-1] + "q"
    elif isinstance(thing, bool):
        yield int(thing)
        yield not thing
    elif isinstance(thing, int):
        yield thing + 1
        yield -thing - 1
        yield str(thing)
        if thing in (0, 1):
            yield bool(thing)
