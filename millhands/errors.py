"""The errors of the package: their parameters are their attributes, any values."""


class MillError(Exception):
    """The base of all errors of this package."""


class BadBook(MillError):
    """No book has this part."""

    def __init__(self, part):
        self.part = part


class BadText(MillError):
    """The text is not as told at this line."""

    def __init__(self, line):
        self.line = line


class BadWeb(MillError):
    """No web, or no row."""

    def __init__(self, thing):
        self.thing = thing


class OtherLetters(MillError):
    """What goes into one call has unlike letters."""


class TooMany(MillError):
    """What is asked for has more nodes than this."""

    def __init__(self, most):
        self.most = most


class BadReader(MillError):
    """No reader has this part."""

    def __init__(self, part):
        self.part = part


class BadTeller(MillError):
    """No teller has this part."""

    def __init__(self, part):
        self.part = part


class BadFan(MillError):
    """No fan has this part."""

    def __init__(self, part):
        self.part = part


class BadWeft(MillError):
    """No weft."""

    def __init__(self, thing):
        self.thing = thing


class Merged(MillError):
    """Two webs are left as one."""

    def __init__(self, web, further):
        self.web = web
        self.further = further


class TooLong(MillError):
    """What is asked for is longer than this."""

    def __init__(self, most):
        self.most = most


class BadCourse(MillError):
    """No course has this place."""

    def __init__(self, place):
        self.place = place


class BadWish(MillError):
    """No wish."""

    def __init__(self, thing):
        self.thing = thing


class Unsound(MillError):
    """No order of this outcome fits."""

    def __init__(self, outcome):
        self.outcome = outcome


class BadProgram(MillError):
    """No program has this part."""

    def __init__(self, part):
        self.part = part


class BadDuel(MillError):
    """No duel has this part."""

    def __init__(self, part):
        self.part = part


class Lost(MillError):
    """The other hand wins."""

    def __init__(self, paper):
        self.paper = paper


class NotNow(MillError):
    """It is not this hand's turn."""


class NoMove(MillError):
    """No move of this turn lays this."""

    def __init__(self, letter):
        self.letter = letter


class NothingToUndo(MillError):
    """There is nothing to take back."""


class NothingToRedo(MillError):
    """There is nothing to make again."""


class BadRow(MillError):
    """No row."""

    def __init__(self, thing):
        self.thing = thing


class BadPlace(MillError):
    """No place."""

    def __init__(self, place):
        self.place = place


class Full(MillError):
    """The limits let no more."""

    def __init__(self, part):
        self.part = part


class NoHand(MillError):
    """No open lot has this number."""

    def __init__(self, number):
        self.number = number


class Waits(MillError):
    """This hand has a kept wish."""

    def __init__(self, number):
        self.number = number


class BadDeed(MillError):
    """No deed."""

    def __init__(self, thing):
        self.thing = thing


class NoWish(MillError):
    """This hand has no kept wish."""

    def __init__(self, number):
        self.number = number


class BadName(MillError):
    """No name, or one that is taken."""

    def __init__(self, name):
        self.name = name


class NoName(MillError):
    """Nothing has this name."""

    def __init__(self, name):
        self.name = name


class BadPromise(MillError):
    """No promise."""

    def __init__(self, thing):
        self.thing = thing


class Broken(MillError):
    """This promise would not hold."""

    def __init__(self, promise, paper):
        self.promise = promise
        self.paper = paper


class NoMill(MillError):
    """No mill has been told."""


class InvalidCommand(MillError):
    """Not the form of a command."""
