"""Mills: a web, the hands that work on it, what was told to them, and what waits."""

from millhands.answers import status, told_items
from millhands.books import check_web
from millhands.errors import BadDeed, Full, NoHand, NothingToRedo, NothingToUndo, NoWish, Waits
from millhands.logs import handed, taken_out, with_item
from millhands.sheds import first_order, left_by
from millhands.wishes import is_open, is_wish

MOST_LOTS = 4
MOST_OPEN = 3
MOST_ITEMS = 8
# How many letters hands lay at most, over one or two letters, and over three.
MOST_LAYS = 5
MOST_LAYS_OF_THREE = 4


class Mill:
    """A book, a web, and the log of hands that are at work on it, with all that can be taken back.

    What a mill is at one time stands in a dict that is never changed: each deed puts a new one in
    its place. "shelf" has the pairs of names and wefts, "hands" how many hands have begun.
    """

    def __init__(self, book, web=""):
        check_web(book.letters, web)
        self.now = {"book": book, "web": web, "log": (), "kept": (), "news": (), "hands": 0, "shelf": (),
                    "promises": ()}
        self.past = ()
        self.coming = ()

    def __len__(self):
        return len([lot for lot in self.now["log"] if not lot[1]])

    @property
    def book_now(self):
        return self.now["book"]

    @property
    def web_now(self):
        return self.now["web"]

    @property
    def log_now(self):
        return self.now["log"]

    @property
    def kept_now(self):
        return self.now["kept"]

    @property
    def news_now(self):
        return self.now["news"]

    def go_on(self, further):
        """A deed: what the mill is from now on."""
        self.past = (*self.past, self.now)
        self.now = further
        self.coming = ()

    def begin(self):
        """A hand begins; its number."""
        log = self.now["log"]
        if len(log) >= MOST_LOTS:
            raise Full("lots")
        if len(self) >= MOST_OPEN:
            raise Full("open")
        number = self.now["hands"]
        earlier = tuple([lot[0] for lot in log if lot[1]])
        self.go_on({**self.now, "log": (*log, (number, False, earlier, ())), "hands": number + 1})
        return number

    def check_hand(self, thing):
        if not is_open(self.now["log"], thing):
            raise NoHand(thing)

    def check_wishless(self, number):
        if wish_of(self.now, number) is not None:
            raise Waits(number)

    def ask(self, number, deed):
        """A hand asks a deed: an item of it is told, or waits, or can never be told."""
        self.check_hand(number)
        self.check_wishless(number)
        book, log = self.now["book"], self.now["log"]
        if not is_wish(book.letters, log, (number, deed)):
            raise BadDeed(deed)
        check_room(self.now, deed)
        found = status(book, log, (number, deed), self.now["web"])
        if found[0] == "told":
            self.go_on(with_told(self.now, number, found[1]))
        elif found[0] == "waits":
            self.go_on({**self.now, "kept": (*self.now["kept"], (number, deed))})
        return found

    def hand_in(self, number):
        """A hand is done; the news that this brings."""
        self.check_hand(number)
        self.check_wishless(number)
        return self.end_hand({**self.now, "log": handed(self.now["log"], number)})

    def take_out(self, number):
        """A hand gives up; the news that this brings."""
        self.check_hand(number)
        kept = tuple([wish for wish in self.now["kept"] if wish[0] != number])
        return self.end_hand({**self.now, "log": taken_out(self.now["log"], number), "kept": kept})

    def end_hand(self, further):
        """A hand has ended: kept wishes are looked at, and with no open lot all is reckoned in."""
        many = len(further["news"])
        further = reckoned_in(kept_looked_at(further))
        self.go_on(further)
        return further["news"][many:]

    def drop(self, number):
        """The kept wish of a hand is gone."""
        self.check_hand(number)
        wish = wish_of(self.now, number)
        if wish is None:
            raise NoWish(number)
        self.go_on({**self.now, "kept": without_wish(self.now, wish)})

    def status(self, number):
        """The status of the kept wish of a hand, None if it has none."""
        self.check_hand(number)
        wish = wish_of(self.now, number)
        return None if wish is None else status(self.now["book"], self.now["log"], wish, self.now["web"])

    def undo(self):
        """Takes the last deed back."""
        if not self.past:
            raise NothingToUndo()
        self.coming = (self.now, *self.coming)
        self.now = self.past[-1]
        self.past = self.past[:-1]

    def redo(self):
        """Makes again the deed that was taken back last."""
        if not self.coming:
            raise NothingToRedo()
        self.past = (*self.past, self.now)
        self.now = self.coming[0]
        self.coming = self.coming[1:]

    def tried(self, action):
        """What a function returns that is called with the mill; behind it all is as it was."""
        now, past, coming = self.now, self.past, self.coming
        try:
            return action(self)
        finally:
            self.now, self.past, self.coming = now, past, coming


def wish_of(now, number):
    """The kept wish of a hand, None if it has none."""
    return next((wish for wish in now["kept"] if wish[0] == number), None)


def without_wish(now, wish):
    """The kept wishes without one."""
    return tuple([other for other in now["kept"] if other != wish])


def check_room(now, deed):
    """Whether the limits of a log let one more deed, told or kept."""
    deeds = [item for lot in now["log"] for item in lot[3]] + [kept for _, kept in now["kept"]]
    if len(deeds) >= MOST_ITEMS:
        raise Full("items")
    lays = [item for item in deeds if not item.startswith("?")]
    if deed != "?" and len(lays) >= (MOST_LAYS if len(now["book"]) < 3 else MOST_LAYS_OF_THREE):
        raise Full("lays")


def with_told(now, number, item):
    """What a mill is when an item was told to a hand."""
    return {**now, "log": with_item(now["log"], number, item), "news": (*now["news"], (number, item))}


def kept_looked_at(now):
    """What a mill is when kept wishes were told, the first one first, as long as an item of one can be told."""
    at = 0
    while at < len(now["kept"]):
        wish = now["kept"][at]
        items = told_items(now["book"], now["log"], wish, now["web"])
        at += 1
        if items:
            now = {**with_told(now, wish[0], items[0]), "kept": without_wish(now, wish)}
            at = 0
    return now


def reckoned_in(now):
    """What a mill is when its lots were reckoned in, if none of them is open."""
    log = now["log"]
    if any([not lot[1] for lot in log]):
        return now
    order = first_order(now["book"], log, tuple([lot[0] for lot in log]), now["web"])
    return {**now, "web": left_by(now["book"], log, order, now["web"]), "log": ()}
