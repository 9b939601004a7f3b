"""Histories by chance, and what the document says of them, told again in the plainest way."""

import itertools

from meettrees.events import Event
from meettrees.heard import Heard

NONE, FOLDER = ("none",), ("folder",)
SMALL_PATHS = (("a",), ("a", "x"), ("a", "y"), ("a", "x", "z"), ("b",))
SMALL_VALUES = (NONE, FOLDER, ("file", "1"), ("file", "2"))


def quarrel(one, other):
    """Whether two changes quarrel."""
    if one[0] == other[0]:
        return one[1] != other[1]
    upper, lower = sorted((one, other), key=lambda change: len(change[0]))
    is_below = len(lower[0]) > len(upper[0]) and lower[0][:len(upper[0])] == upper[0]
    return is_below and upper[1] != FOLDER and lower[1] != NONE


def some_changes(dice, paths, values, most):
    """Changes by chance that one event may have."""
    found = []
    for _ in range(dice.randint(1, most)):
        new = (dice.choice(paths), dice.choice(values))
        if not any(new[0] == old[0] or quarrel(new, old) for old in found):
            found.append(new)
    return found


def some_history(dice, machines, many, paths=SMALL_PATHS, values=SMALL_VALUES, most=2, meet=0.4):
    """Closed events by chance, as they were made, by machines that meet now and then."""
    counts = [[0] * machines for _ in range(machines)]
    events = []
    while len(events) < many:
        machine = dice.randrange(machines)
        if dice.random() < meet:
            other = dice.randrange(machines)
            counts[machine] = [max(pair) for pair in zip(counts[machine], counts[other])]
        else:
            past = list(counts[machine])
            counts[machine][machine] += 1
            number = counts[machine][machine]
            events.append(Event(machine, number, past, some_changes(dice, paths, values, most)))
    return events


def in_past(one, other):
    """Whether the one of two events is in the past of the other."""
    return one.number <= other.past[one.machine]


def are_closed(machines, events):
    """Whether events are closed, by all their pairs."""
    ids = sorted(event.id for event in events)
    if len(set(ids)) < len(ids) or any(len(event.past) != machines for event in events):
        return False
    counts = [sum(event.machine == machine for event in events) for machine in range(machines)]
    if ids != [(machine, number) for machine in range(machines) for number in range(1, counts[machine] + 1)]:
        return False
    if any(told > count for event in events for told, count in zip(event.past, counts)):
        return False
    return all(
        mine <= its
        for one in events for other in events if in_past(one, other)
        for mine, its in zip(one.past, other.past)
    )


def in_order(events):
    """Events in order."""
    return sorted(events, key=lambda event: (sum(event.past), event.machine))


def all_told(events):
    """For each id of a change its event and itself."""
    return {(*event.id, index): (event, change) for event in events for index, change in enumerate(event.changes)}


def overrulers(events, key):
    """The ids of all changes that overrule this one, ascending."""
    told = all_told(events)
    event, change = told[key]
    return sorted(
        other for other, (its, its_change) in told.items()
        if in_past(event, its) and (change[0] == its_change[0] or quarrel(change, its_change))
    )


def live_told(events):
    """The live changes by their ids, ascending."""
    told = all_told(events)
    return {key: told[key][1] for key in sorted(told) if not overrulers(events, key)}


def quarrels_told(standing):
    """The pairs of live ids that quarrel."""
    return tuple(
        (one, other) for one, other in itertools.combinations(standing, 2) if quarrel(standing[one], standing[other])
    )


def parts_told(standing):
    """The parts, by joining those that quarrel again and again."""
    found = [{key} for key in standing]
    for one, other in quarrels_told(standing):
        mine, its = [next(part for part in found if key in part) for key in (one, other)]
        if mine is not its:
            found.remove(its)
            mine |= its
    return tuple(sorted(tuple(sorted(part)) for part in found if len(part) > 1))


def lots_told(standing):
    """All lots, ascending, by trial of all lists of live ids."""
    pairs = set(quarrels_told(standing))
    found = []
    for length in range(len(standing) + 1):
        for lot in itertools.combinations(standing, length):
            if not any(pair in pairs for pair in itertools.combinations(lot, 2)):
                found.append(lot)
    return sorted(found)


def settlings_told(standing):
    """All settlings, ascending, by trial of all lots."""
    found = [set(lot) for lot in lots_told(standing)]
    return sorted(tuple(sorted(lot)) for lot in found if not any(lot < other for other in found))


def tree_told(standing, lot):
    """The values of the tree of a lot, and its fills, ascending."""
    told = [standing[key] for key in lot]
    own = {path for path, _ in told}
    fills = sorted({
        path[:length] for path, value in told if value != NONE for length in range(1, len(path))
        if path[:length] not in own
    })
    values = {path: value for path, value in told if value != NONE}
    return {**values, **{path: FOLDER for path in fills}}, fills


def apart(*changes_of_each):
    """What is heard of machines each of which made events with some changes, alone."""
    many = len(changes_of_each)
    events = []
    for at, some in enumerate(changes_of_each):
        for number in range(1, (len(some) + 13) // 14 + 1):
            past = [number - 1 if place == at else 0 for place in range(many)]
            events.append(Event(at, number, past, some[14 * number - 14:14 * number]))
    return Heard(many, events)


def greedy(standing):
    """The shown lot of live changes, as the document tells how it is found."""
    taken = []
    for key in standing:
        if not any(quarrel(standing[key], standing[other]) for other in taken):
            taken.append(key)
    return tuple(taken)
