"""Lines that a desk is told: their words, and what stands behind them."""

from meettrees.checks import is_within
from meettrees.deed_texts import deed_of
from meettrees.errors import BadText
from meettrees.paths import spot_told
from meettrees.settlings import MOST_SETTLINGS

MOST_DIGITS = 60
DIGITS = "0123456789"

# For each word of a line what the items behind it are; those of a deed and of a lot go up to the line's end.
DEED_LINES = {
    "do": ("machine", "deed"),
    "begin": ("machine", "deed"),
    "settle": ("machine", "index"),
    "begin_settling": ("machine", "index"),
    "press": ("machine",),
    "begin_pressing": ("machine",),
    "turn": ("machine",),
    "finish": ("machine",),
    "up": ("machine",),
    "cut": ("machine", "lot"),
    "send": ("machine", "machine"),
    "meet": ("machine", "machine"),
    "take": ("number",),
    "begin_taking": ("number",),
    "lose": ("number",),
    "double": ("number",),
    "gather": (),
}
ASK_LINES = {
    "running": (),
    "agreed": (),
    "bag": (),
    "disk": ("machine",),
    "counts": ("machine",),
    "done": ("machine",),
    "lacks": ("machine",),
    "tree": ("machine",),
    "at": ("machine", "path"),
    "names": ("machine", "path"),
    "live": ("machine",),
    "shown": ("machine",),
    "quarrels": ("machine",),
    "parts": ("machine",),
    "settlings": ("machine", "most"),
    "many": ("machine",),
    "change": ("machine", "number", "number", "number"),
    "fate": ("machine", "number", "number", "number"),
    "unsettled": ("machine", "path"),
    "lets": ("machine", "deed"),
}


def line_told(line, machines):
    """The word of a line at a desk of so many machines, and what its items tell, a tuple."""
    if not isinstance(line, str):
        raise BadText(0, 0)
    items = line.split(" ")
    word = items[0]
    if word not in DEED_LINES and word not in ASK_LINES:
        raise BadText(0, 0)
    form = DEED_LINES[word] if word in DEED_LINES else ASK_LINES[word]
    told = [word]
    for kind in form:
        if kind == "deed":
            return (*told, deed_told(items, len(told)))
        if kind == "lot":
            return (*told, lot_told(items, len(told)))
        part = item_told(kind, items[len(told)], machines) if len(told) < len(items) else None
        if part is None:
            raise BadText(0, len(told))
        told.append(part)
    if len(items) > len(told):
        raise BadText(0, len(told))
    return tuple(told)


def item_told(kind, item, machines):
    """What an item of this kind tells; None if it cannot stand."""
    if kind == "path":
        return spot_told(item)
    if kind == "machine":
        return integer_told(item, 0, machines - 1)
    if kind == "index":
        return integer_told(item, 0, MOST_SETTLINGS - 1)
    if kind == "most":
        return integer_told(item, 1, MOST_SETTLINGS)
    return integer_told(item, 0, None)


def integer_told(item, least, most):
    """The integer from least to most that an item tells; None if it tells none."""
    if not 1 <= len(item) <= MOST_DIGITS or not all([sign in DIGITS for sign in item]):
        return None
    if item[0] == "0" and len(item) > 1:
        return None
    number = int(item)
    return number if is_within(number, least, most) else None


def deed_told(items, at):
    """The plain deed that the items tell from this index on."""
    try:
        deed = deed_of(" ".join(items[at:]))
    except BadText as error:
        raise BadText(0, at + error.item)
    return deed


def lot_told(items, at):
    """The ascending integers that the items tell from this index on, perhaps none."""
    numbers = []
    least = 0
    for index in range(at, len(items)):
        number = integer_told(items[index], least, None)
        if number is None:
            raise BadText(0, index)
        numbers.append(number)
        least = number + 1
    return tuple(numbers)
