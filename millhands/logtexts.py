"""Texts of logs."""

from millhands.errors import BadText
from millhands.helpers import integer_read, is_ascending
from millhands.wefts import is_weft, weft_text


def log_text(log):
    """The text of a log."""
    lines = [lot_line(lot) for lot in log]
    return "\n".join(["log", *lines])


def lot_line(lot):
    number, is_handed, earlier, weft = lot
    state = "done" if is_handed else "open"
    ahead = ",".join([str(one) for one in earlier]) or "-"
    return f"lot {number} {state} {ahead} {weft_text(weft)}"


def log_read(letters, text):
    """The log with a text."""
    if not isinstance(text, str):
        raise BadText(0)
    lines = text.split("\n")
    if lines[0] != "log":
        raise BadText(1)
    lots = []
    for line in lines[1:]:
        lot = lot_read(letters, line, [known[0] for known in lots])
        if lot is None:
            raise BadText(len(lots) + 2)
        lots.append(lot)
    return tuple(lots)


def lot_read(letters, line, known):
    """The lot that a line tells, None if it tells none behind lots with known numbers."""
    words = line.split(" ")
    if len(words) < 5 or words[0] != "lot" or words[2] not in ("done", "open"):
        return None
    number = integer_read(words[1])
    earlier = earlier_read(words[3], known)
    weft = () if words[4:] == ["-"] else tuple(words[4:])
    if number is None or earlier is None or (known and number <= known[-1]) or not is_weft(letters, weft):
        return None
    return (number, words[2] == "done", earlier, weft)


def earlier_read(word, known):
    """The ascending tuple of known numbers that a word tells, None if it tells none."""
    if word == "-":
        return ()
    numbers = tuple([integer_read(part) for part in word.split(",")])
    return numbers if all([number in known for number in numbers]) and is_ascending(numbers) else None
