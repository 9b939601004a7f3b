"""Changes: a path and the value that it has from then on."""

from meettrees.checks import is_list
from meettrees.errors import BadValue
from meettrees.papers import fixed
from meettrees.paths import FOLDER, NONE, begins_with, is_path, is_value


def is_change(value):
    """Whether any value is a change."""
    return is_list(value) and len(value) == 2 and is_path(value[0]) and is_value(value[1])


def do_quarrel(one, other):
    """Whether two changes quarrel."""
    if not is_change(one):
        raise BadValue("one")
    if not is_change(other):
        raise BadValue("other")
    return are_at_odds(fixed(one), fixed(other))


def are_at_odds(one, other):
    """What do_quarrel tells, of tuples that are known to be changes."""
    if one[0] == other[0]:
        return one[1] != other[1]
    return lets_no(one, other) or lets_no(other, one)


def lets_no(upper, lower):
    """Whether a change takes away the folder in which another one, below it, puts something."""
    return begins_with(lower[0], upper[0]) and upper[1] != FOLDER and lower[1] != NONE
