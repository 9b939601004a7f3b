"""Quarrels: changes that were made without hearing of one another, and do not go together."""

from itertools import combinations

from meettrees.changes import are_at_odds
from meettrees.events import is_in_past
from meettrees.heard import change, check_change, check_heard, entries_of
from meettrees.paths import uppers_of


def overruler(heard, key):
    """The first id of a change that overrules the one with this id; None if that one is live."""
    check_heard(heard)
    check_change(heard, key)
    event, told = heard.event(key[:2]), change(heard, key)
    for other_key, other_event, other_told in entries_of(heard):
        if is_in_past(event, other_event) and do_touch(told, other_told):
            return other_key
    return None


def live(heard):
    """The ids of all live changes, ascending."""
    check_heard(heard)
    return tuple([key for key, _, _ in live_entries(heard)])


def quarrels(heard):
    """The pairs of ids of live changes that quarrel, the lesser id first, ascending."""
    check_heard(heard)
    return tuple(quarrels_among(live_entries(heard)))


def parts(heard):
    """The parts into which live changes that quarrel fall, ascending."""
    check_heard(heard)
    return tuple(parts_among(foes_among(live_entries(heard))))


def do_touch(one, other):
    """Whether one of two changes overrules the other if its maker had heard of that one."""
    return one[0] == other[0] or are_at_odds(one, other)


def live_entries(heard):
    """For each live change its id, its event and itself, as the ids ascend."""
    entries = entries_of(heard)
    gone = {}
    for (key, event, told), (other_key, other_event, other_told) in pairs_in_line(entries):
        if not do_touch(told, other_told):
            continue
        if is_in_past(event, other_event):
            gone[key] = True
        if is_in_past(other_event, event):
            gone[other_key] = True
    return [entry for entry in entries if entry[0] not in gone]


def pairs_in_line(entries):
    """All pairs of these entries with one path, or with one path above the other; no others can quarrel."""
    by_path = {}
    for entry in entries:
        by_path.setdefault(entry[2][0], []).append(entry)
    pairs = []
    for path, lowers in by_path.items():
        pairs.extend(list(combinations(lowers, 2)))
        for spot in uppers_of(path):
            pairs.extend([(lower, upper) for upper in by_path.get(spot, []) for lower in lowers])
    return pairs


def quarrels_among(entries):
    """The pairs of ids of these live changes that quarrel, the lesser id first, ascending."""
    return sorted([
        (min(key, other_key), max(key, other_key))
        for (key, _, told), (other_key, _, other_told) in pairs_in_line(entries)
        if are_at_odds(told, other_told)
    ])


def foes_among(entries):
    """A dict of the ids of these live changes, each with all ids with which it quarrels, all ascending."""
    foes = {key: [] for key, _, _ in entries}
    for one, other in quarrels_among(entries):
        foes[one].append(other)
        foes[other].append(one)
    return foes


def parts_among(foes):
    """The parts into which live ids fall, given those with which each of them quarrels, ascending."""
    found = []
    reached = {}
    for key in foes:
        if foes[key] and key not in reached:
            part = part_of(key, foes)
            found.append(part)
            for other in part:
                reached[other] = True
    return found


def part_of(key, foes):
    """All ids to which a row of quarrels leads from one, ascending."""
    reached = {key: True}
    waiting = [key]
    while waiting:
        known = waiting.pop()
        for foe in foes[known]:
            if foe not in reached:
                reached[foe] = True
                waiting.append(foe)
    return tuple(sorted(reached))
