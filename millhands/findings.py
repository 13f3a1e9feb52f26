"""Findings: papers of all parts, together with the texts and values that they are about."""

from millhands.answerpapers import status_holds
from millhands.books import Book, is_web
from millhands.coursepapers import back_holds, courses_hold
from millhands.duelpapers import duel_holds
from millhands.duels import Duel, is_goal
from millhands.errors import BadText
from millhands.helpers import has_head, is_below, is_letter, is_number
from millhands.ledsets import alike_holds
from millhands.logs import is_numbers
from millhands.logtexts import log_read
from millhands.longrows import one_holds
from millhands.moving import moved_holds
from millhands.opposites import one_one_holds
from millhands.passing import passing_holds
from millhands.programs import Program
from millhands.reach import going_holds, reach_holds
from millhands.readers import Reader
from millhands.rounds import rounds_hold
from millhands.shedpapers import certain_holds, is_outcome, sound_holds
from millhands.tables import table_holds
from millhands.takingback import lots_hold
from millhands.tellers import ends_read, within_holds
from millhands.undoing import undoing_holds
from millhands.wefts import weft_read
from millhands.wishes import is_wish

# For the word of each finding what its parts are, but for the paper.
FORMS = {
    "goes": ("book", "letter"),
    "reach": ("book", "web", "web"),
    "alike": ("reader", "reader"),
    "within": ("ends", "ends"),
    "passes": ("word", "reader", "reader"),
    "moved": ("book", "weft", "weft"),
    "sound": ("book", "log", "ends"),
    "certain": ("book", "log", "outcome", "ends"),
    "status": ("book", "log", "wish", "ends"),
    "table": ("book", "program"),
    "rounds": ("book", "weft"),
    "lots": ("book", "day", "numbers"),
    "one-one": ("reader",),
    "undone": ("book", "reader", "many"),
    "courses": ("book", "shelf", "ends", "ends"),
    "back": ("book", "shelf", "ends", "ends"),
    "one again": ("book", "web", "web", "web"),
    "duel": ("book", "duel", "goal", "web"),
}
# Texts that tell their letters.
TEXTS = ("book", "reader", "ends", "program", "duel")


def finding_holds(thing):
    """Whether any value is a finding that holds."""
    if not has_head(thing) or thing[0] not in FORMS or len(thing) != len(FORMS[thing[0]]) + 2:
        return False
    parts = parts_read(FORMS[thing[0]], thing[1:-1])
    return parts is not None and is_shown(thing[0], parts, thing[-1])


def parts_read(form, things):
    """The list of the parts that some values tell, None if one of them tells none."""
    letters = None
    parts = []
    for kind, thing in zip(form, things):
        if kind in TEXTS:
            part = text_read(kind, thing)
            # The first text tells the letters of all.
            letters = part.letters if part is not None and letters is None else letters
            if part is None or part.letters != letters:
                return None
        else:
            part = value_read(kind, thing, letters, parts)
        if part is None:
            return None
        parts.append(part)
    return parts


def text_read(kind, text):
    """What a text of a kind tells, None if it tells nothing."""
    try:
        if kind == "book":
            return Book.read(text)
        if kind == "reader":
            return Reader.read(text)
        if kind == "program":
            return Program.read(text)
        return Duel.read(text) if kind == "duel" else ends_read(text)
    except BadText:
        return None


def value_read(kind, thing, letters, ahead):
    """What a value of a kind tells behind the parts ahead of it, None if it is not as it has to be."""
    if kind in ("weft", "log"):
        return own_text_read(kind, letters, thing)
    if kind in ("day", "shelf"):
        return wefts_read(kind, letters, thing)
    return thing if is_told(kind, thing, letters, ahead) else None


def own_text_read(kind, letters, text):
    """The weft or the log over some letters that a text tells, None if it tells none."""
    try:
        return weft_read(letters, text) if kind == "weft" else log_read(letters, text)
    except BadText:
        return None


def wefts_read(kind, letters, things):
    """The wefts of a day or of a shelf that texts tell, None if they tell none."""
    if not isinstance(things, tuple) or (things == () and kind == "shelf"):
        return None
    wefts = [own_text_read("weft", letters, text) for text in things]
    return None if None in wefts else tuple(wefts)


def is_told(kind, thing, letters, ahead):
    """Whether a value that is no text is as it has to be."""
    if kind == "letter":
        return is_letter(letters, thing)
    if kind == "web":
        return is_web(letters, thing)
    if kind == "goal":
        return is_goal(letters, thing)
    if kind == "wish":
        return is_wish(letters, ahead[1], thing)
    if kind == "outcome":
        return is_outcome(ahead[1], thing)
    if kind == "numbers":
        return is_numbers(thing) and all([is_below(number, len(ahead[1])) for number in thing])
    if kind == "many":
        return is_number(thing) and thing >= 0
    return isinstance(thing, str) and thing in ("forward", "ahead", "even")


def is_shown(word, parts, paper):
    """Whether a value is a paper for what the parts of a finding with a word tell."""
    if word == "goes":
        return going_holds(*parts, paper)
    if word == "reach":
        return reach_holds(*parts, paper)
    if word == "alike":
        return alike_holds(*parts, paper)
    if word == "within":
        return within_holds(*parts, paper)
    if word == "passes":
        return passing_holds(*parts, paper)
    if word == "moved":
        return moved_holds(*parts, paper)
    if word == "sound":
        return sound_holds(*parts, paper)
    if word == "certain":
        return certain_holds(*parts, paper)
    if word == "status":
        return status_holds(*parts, paper)
    if word == "table":
        return table_holds(*parts, paper)
    if word == "rounds":
        return rounds_hold(*parts, paper)
    if word == "lots":
        return lots_hold(*parts, paper)
    if word == "one-one":
        return one_one_holds(*parts, paper)
    if word == "undone":
        return undoing_holds(*parts, paper)
    if word == "courses":
        return courses_hold(*parts, paper)
    if word == "back":
        return back_holds(*parts, paper)
    if word == "one again":
        return one_holds(*parts, paper)
    return duel_holds(*parts, paper)
