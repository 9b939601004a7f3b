"""Paths: where something stands in a tree; and the values that may stand there."""

from meettrees.checks import is_list, is_name, is_within
from meettrees.errors import BadPath, BadText
from meettrees.papers import fixed

LONGEST_PATH = 6
LONGEST_TEXT = 60
# From the blank to the tilde; the character with the code 37 stands in no text.
TEXT_SIGNS = " !\"#$&'()*+,-./0123456789:;<=>?@ABCDEFGHIJKLMNOPQRSTUVWXYZ[\\]^_`abcdefghijklmnopqrstuvwxyz{|}~"
ROOT = ()
NONE = ("none",)
FOLDER = ("folder",)


def is_path(value):
    """Whether any value is a path; the root is none."""
    return is_spot(value) and len(value) > 0


def is_spot(value):
    """Whether any value is a path or the root."""
    return is_list(value) and len(value) <= LONGEST_PATH and all([is_name(part) for part in value])


def is_value(value):
    """Whether any value is one that a path may have."""
    if not is_list(value) or not is_within(len(value), 1, 2) or not isinstance(value[0], str):
        return False
    if len(value) == 1:
        return value[0] in ("none", "folder")
    return value[0] == "file" and is_text(value[1])


def is_text(value):
    """Whether any value is the text of a file."""
    if not isinstance(value, str) or len(value) > LONGEST_TEXT:
        return False
    return all([sign in TEXT_SIGNS for sign in value])


def is_above(one, other):
    """Whether the one of two paths, or the root, stands above the other."""
    if not is_spot(one):
        raise BadPath("one")
    if not is_spot(other):
        raise BadPath("other")
    return begins_with(fixed(other), fixed(one))


def begins_with(path, upper):
    """Whether a path has all names of a shorter one ahead of further ones; both are tuples."""
    return len(upper) < len(path) and path[:len(upper)] == upper


def folder_of(path):
    """The path, or the root, that is left of a path without its last name."""
    if not is_path(path):
        raise BadPath("path")
    return fixed(path)[:-1]


def paths_above(path):
    """All paths above a path, the shortest first."""
    if not is_path(path):
        raise BadPath("path")
    return uppers_of(fixed(path))


def uppers_of(path):
    """What paths_above tells, of a tuple that is known to be a path."""
    return tuple([path[:length] for length in range(1, len(path))])


def path_text(path):
    """The text of a path or the root."""
    if not is_spot(path):
        raise BadPath("path")
    return "/" + "/".join(path)


def path_of(text):
    """The path, or the root, whose text this is."""
    spot = spot_told(text)
    if spot is None:
        raise BadText(0, 0)
    return spot


def spot_told(text):
    """The path, or the root, whose text any value is; None if there is none."""
    if not isinstance(text, str) or not text.startswith("/"):
        return None
    names = () if text == "/" else tuple(text[1:].split("/"))
    return names if is_spot(names) else None
