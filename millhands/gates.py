"""Gates: named wefts of a mill, promises for all days to come, and editions of its book that keep them."""

from millhands.coursepapers import back_holds, courses_hold, judge_back, lightest_course
from millhands.errors import BadName, BadPromise, Broken, NoName, OtherLetters, TooLong, Unsound
from millhands.helpers import ALPHABET, are_same, is_below, is_paper, is_word
from millhands.ledsets import domain
from millhands.passing import complement
from millhands.shedpapers import is_ends_over
from millhands.sheds import first_unfit
from millhands.tellers import Teller
from millhands.wefts import check_weft, reader_of

LONGEST_NAME = 8
MOST_PROMISED = 60
LONGEST_COURSE = 200


class Gate:
    """The named wefts and promises of a mill; all gates of one mill tell the same."""

    def __init__(self, mill):
        self.mill = mill

    def names(self):
        """The ascending tuple of the names of wefts."""
        return tuple([name for name, _ in self.mill.now["shelf"]])

    def weft(self, name):
        """The weft with a name."""
        if not self.is_kept(name):
            raise NoName(name)
        return weft_named(self.mill.now["shelf"], name)

    def is_kept(self, thing):
        """Whether any value is a name of a weft."""
        return is_name(thing) and thing in self.names()

    def promises(self):
        """The tuple of the promises, in the order in which they were put."""
        return self.mill.now["promises"]

    def put(self, name, weft):
        """Puts a weft with a new name."""
        if not is_name(name) or self.is_kept(name):
            raise BadName(name)
        check_weft(self.mill.book_now.letters, weft)
        self.enter({**self.mill.now, "shelf": tuple(sorted([*self.mill.now["shelf"], (name, weft)]))})

    def take_away(self, name):
        """Takes the weft with a name away."""
        if not self.is_kept(name):
            raise NoName(name)
        self.enter({**self.mill.now, "shelf": tuple([pair for pair in self.mill.now["shelf"] if pair[0] != name])})

    def put_promise(self, promise):
        """Puts a promise behind those that there are."""
        if not is_promise(self.mill.book_now.letters, promise):
            raise BadPromise(promise)
        self.enter({**self.mill.now, "promises": (*self.mill.now["promises"], promise)})

    def bring(self, book):
        """An edition of the book comes in."""
        if book.letters != self.mill.book_now.letters:
            raise OtherLetters()
        outcome = first_unfit(book, self.mill.log_now, self.mill.web_now)
        if outcome is not None:
            raise Unsound(outcome)
        self.enter({**self.mill.now, "book": book})

    def enter(self, further):
        """A deed of the mill, if all promises hold behind it."""
        for promise in further["promises"]:
            found = breach(further["book"], further["shelf"], promise)
            if found is not None:
                raise Broken(promise, found[0])
        self.mill.go_on(further)


def weft_named(named, name):
    """The weft with a name among pairs of names and wefts, None if there is none."""
    return next((weft for other, weft in named if other == name), None)


def is_name(thing):
    """Whether any value is a word of one to eight letters."""
    return is_word(ALPHABET, thing) and 1 <= len(thing) <= LONGEST_NAME


def is_promise(letters, thing):
    """Whether any value is a promise over some letters."""
    if is_paper(thing, "never", 3) or is_paper(thing, "back", 3):
        return is_ends_over(letters, thing[1]) and is_ends_over(letters, thing[2])
    if is_paper(thing, "most", 3):
        return is_ends_over(letters, thing[1]) and is_below(thing[2], MOST_PROMISED + 1)
    return is_paper(thing, "fits", 3) and is_ends_over(letters, thing[1]) and is_name(thing[2])


def wefts_of(named):
    return tuple([weft for _, weft in named])


def is_nameless(named, promise):
    """Whether a promise tells of a name that is not kept."""
    return promise[0] == "fits" and weft_named(named, promise[2]) is None


def barred_goal(book, named, promise):
    """The end set to which no web of the start of a promise may come, for all promises but "back"."""
    if promise[0] == "never":
        return promise[2]
    if promise[0] == "most":
        return longer_than(book.letters, promise[2])
    return complement(domain(reader_of(book, weft_named(named, promise[2]))))


def longer_than(letters, many):
    """The end set of the webs with more than so many letters."""
    nodes = [("reads", False) + tuple([at + 1 for _ in letters]) for at in range(many + 1)]
    return Teller(letters, (*nodes, ("says", True)))


def breach(book, named, promise):
    """None if a promise holds, otherwise a tuple with any paper that it does not, or with None for too long courses."""
    if is_nameless(named, promise):
        return (("no name", promise[2]),)
    try:
        if promise[0] == "back":
            paper = judge_back(book, wefts_of(named), promise[1], promise[2], longest=LONGEST_COURSE)
            return (paper,) if paper[0] == "stuck" else None
        goal = barred_goal(book, named, promise)
        way = lightest_course(book, wefts_of(named), promise[1], goal, LONGEST_COURSE)
    except TooLong:
        return (None,)
    return None if way is None else (("comes", *way),)


def promise_breaks(mill, promise):
    """Any paper that a promise does not hold in a mill, None if it does, or if the courses of it are too long."""
    found = breach(mill.book_now, mill.now["shelf"], promise)
    return None if found is None else found[0]


def does_promise_hold(mill, promise):
    """Whether a promise holds in a mill."""
    return breach(mill.book_now, mill.now["shelf"], promise) is None


def breaks_holds(mill, promise, thing):
    """Whether any value is a paper that a promise does not hold in a mill."""
    book, named = mill.book_now, mill.now["shelf"]
    if is_nameless(named, promise):
        return is_paper(thing, "no name", 2) and are_same(thing[1], promise[2])
    if promise[0] == "back":
        return is_paper(thing, "stuck", 4) and back_holds(book, wefts_of(named), promise[1], promise[2], thing)
    if not is_paper(thing, "comes", 3):
        return False
    return courses_hold(book, wefts_of(named), promise[1], barred_goal(book, named, promise), thing)
