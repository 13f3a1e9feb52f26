"""A mill as [10.1] to [10.3] and [10.6] tell it, by all orders of all outcomes; tests hold the package beside it."""

from millhands.logs import handed, orders, outcomes, taken_out, weft_of, with_item
from millhands.wefts import done
from millhands.wishes import is_release_within, items_of_wish, released, releases_of


def is_sound_by_hand(book, log, web):
    return all(any(done(book, weft_of(log, order), web) is not None for order in orders(log, outcome))
               for outcome in outcomes(log))


def told_by_hand(book, log, wish, web):
    """The items of a wish that can be told."""
    return [item for item in items_of_wish(book.letters, log, wish)
            if is_sound_by_hand(book, with_item(log, wish[0], item), web)]


def status_by_hand(book, log, wish, web):
    items = told_by_hand(book, log, wish, web)
    if items:
        return ("told", items[0])
    letting = [release for release in releases_of(log, wish[0])
               if any(is_sound_by_hand(book, with_item(released(log, release), wish[0], item), web)
                      for item in items_of_wish(book.letters, log, wish))]
    least = tuple(release for release in letting
                  if not any(other != release and is_release_within(other, release) for other in letting))
    return ("waits", least) if least else ("never",)


class HandMill:
    """All that a mill tells, with the names of its properties; deeds that are not let are not asked of it."""

    def __init__(self, book, web):
        self.book_now, self.web_now, self.log_now, self.kept_now, self.news_now = book, web, (), (), ()
        self.hands = 0

    def told(self):
        return (self.book_now, self.web_now, self.log_now, self.kept_now, self.news_now)

    def open_hands(self):
        return [lot[0] for lot in self.log_now if not lot[1]]

    def waiting(self):
        return [number for number, _ in self.kept_now]

    def begin(self):
        earlier = tuple(lot[0] for lot in self.log_now if lot[1])
        self.log_now += ((self.hands, False, earlier, ()),)
        self.hands += 1
        return self.hands - 1

    def ask(self, number, deed):
        found = status_by_hand(self.book_now, self.log_now, (number, deed), self.web_now)
        if found[0] == "told":
            self.tell(number, found[1])
        elif found[0] == "waits":
            self.kept_now += ((number, deed),)
        return found

    def tell(self, number, item):
        self.log_now = with_item(self.log_now, number, item)
        self.news_now += ((number, item),)

    def status(self, number):
        wishes = dict(self.kept_now)
        if number not in wishes:
            return None
        return status_by_hand(self.book_now, self.log_now, (number, wishes[number]), self.web_now)

    def drop(self, number):
        self.kept_now = tuple(wish for wish in self.kept_now if wish[0] != number)

    def hand_in(self, number):
        self.log_now = handed(self.log_now, number)
        return self.ended()

    def take_out(self, number):
        self.drop(number)
        self.log_now = taken_out(self.log_now, number)
        return self.ended()

    def ended(self):
        before = len(self.news_now)
        while True:
            told = [(wish, told_by_hand(self.book_now, self.log_now, wish, self.web_now)) for wish in self.kept_now]
            told = [(wish, items) for wish, items in told if items]
            if not told:
                break
            (number, _), items = told[0]
            self.drop(number)
            self.tell(number, items[0])
        if not self.open_hands():
            outcome = tuple(lot[0] for lot in self.log_now)
            left = [done(self.book_now, weft_of(self.log_now, order), self.web_now)
                    for order in orders(self.log_now, outcome)]
            self.web_now = [web for web in left if web is not None][0]
            self.log_now = ()
        return self.news_now[before:]

    def is_full(self, deed):
        deeds = [item for lot in self.log_now for item in lot[3]] + [kept for _, kept in self.kept_now]
        lays = [item for item in deeds if item[0] != "?"]
        if len(deeds) == 8:
            return "items"
        return "lays" if deed != "?" and len(lays) == (4 if len(self.book_now.letters) == 3 else 5) else None
