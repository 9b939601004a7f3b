"""Texts of plain deeds."""

from meettrees.errors import BadDeed, BadText
from meettrees.papers import fixed
from meettrees.paths import path_text, spot_told
from meettrees.plain import is_deed


def deed_text(deed):
    """The text of a plain deed."""
    if not is_deed(deed):
        raise BadDeed("deed")
    word, path, *rest = fixed(deed)
    behind = [path_text(part) if word == "move" else part for part in rest]
    return " ".join([word, path_text(path), *behind])


def deed_of(text):
    """The plain deed whose text this is."""
    if not isinstance(text, str):
        raise BadText(0, 0)
    word, _, rest = text.partition(" ")
    if word not in ("write", "make", "drop", "move"):
        raise BadText(0, 0)
    spot, blank, behind = rest.partition(" ")
    path = spot_told(spot)
    if path is None:
        raise BadText(0, 1)
    deed = (word, path)
    if blank:
        deed = deed + (spot_told(behind) if word == "move" else behind,)
    if not is_deed(deed):
        raise BadText(0, 2)
    return deed
