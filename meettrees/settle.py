"""To settle: to choose which of the changes that quarrel stand."""

from meettrees.checks import is_list, is_numbers
from meettrees.deeds import folders_above, next_event
from meettrees.errors import BadLot, Nothing, TooMany
from meettrees.events import MOST_CHANGES
from meettrees.heard import check_heard, check_machine
from meettrees.papers import fixed
from meettrees.paths import NONE
from meettrees.quarrels import foes_among, live_entries, parts_among
from meettrees.settlings import changes_among, fills_by, is_barred, shown_among


def settle_event(heard, machine, lot):
    """The event that settles the parts of which the lot has changes."""
    check_heard(heard)
    check_machine(heard.machines, machine)
    entries = live_entries(heard)
    foes = foes_among(entries)
    if not parts_among(foes):
        raise Nothing()
    if not are_ids(lot):
        raise BadLot("lot")
    chosen = fixed(lot)
    touched = keys_touched(chosen, foes)
    if not is_choice(chosen, touched, foes):
        raise BadLot("lot")
    told = changes_among(entries, chosen)
    kept = changes_among(entries, [key for key in shown_among(foes) if key not in touched])
    paths = [path for path, value in told if value != NONE]
    values = {path: value for path, value in told + folders_above(paths, fills_by(kept + told))}
    if len(values) > MOST_CHANGES:
        raise TooMany("changes", MOST_CHANGES)
    return next_event(heard, machine, list(values.items()))


def are_ids(value):
    """Whether any value is a list of what may be ids of changes."""
    return is_list(value) and all([is_numbers(key, 3, None) for key in value])


def keys_touched(chosen, foes):
    """A dict of the ids of all parts of which some are chosen, given the foes of all live ids."""
    taken = {key: True for key in chosen}
    touched = {}
    for part in parts_among(foes):
        if any([key in taken for key in part]):
            for key in part:
                touched[key] = True
    return touched


def is_choice(chosen, touched, foes):
    """Whether these ids are unlike, and of each part that they touch a lot to which no further one can be put."""
    taken = {key: True for key in chosen}
    if not taken or len(taken) < len(chosen) or not all([key in touched for key in taken]):
        return False
    return all([is_barred(key, taken, foes) != (key in taken) for key in touched])
