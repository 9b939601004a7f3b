"""Whether papers of fates are right."""

from meettrees.checks import is_numbers
from meettrees.events import is_in_past
from meettrees.fates import Disputed, Everywhere, Overruled
from meettrees.heard import change, check_change, check_heard
from meettrees.papers import fixed
from meettrees.quarrels import do_touch, foes_among, live_entries
from meettrees.settlings import is_settling


def shows_fate(heard, key, value):
    """Whether any value is a right paper of fate."""
    check_heard(heard)
    check_change(heard, key)
    mine = fixed(key)
    if isinstance(value, Everywhere):
        return is_id(value.key) and value.key == mine and is_everywhere(heard, mine)
    if isinstance(value, Disputed):
        if not is_settling(heard, value.with_it) or not is_settling(heard, value.without):
            return False
        return mine in value.with_it and mine not in value.without
    if isinstance(value, Overruled):
        return does_overrule(heard, value.by, mine)
    return False


def is_id(value):
    """Whether any value has the form of the id of a change."""
    return is_numbers(value, 3, None)


def is_everywhere(heard, key):
    """Whether each settling has the change with this id: it is live, and quarrels with no live one."""
    foes = foes_among(live_entries(heard))
    return key in foes and not foes[key]


def does_overrule(heard, value, key):
    """Whether any value is the id of a change that overrules the one with this id."""
    if not is_id(value) or not heard.has(value[:2]):
        return False
    event = heard.event(value[:2])
    if value[2] >= len(event.changes):
        return False
    return is_in_past(heard.event(key[:2]), event) and do_touch(event.changes[value[2]], change(heard, key))
