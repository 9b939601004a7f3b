"""Events: what one machine changed at once."""

from itertools import combinations

from meettrees.changes import are_at_odds, is_change
from meettrees.checks import is_list, is_numbers, is_within
from meettrees.errors import BadEvent
from meettrees.papers import fixed

MOST_MACHINES = 8
MOST_COUNT = 60000
MOST_CHANGES = 14


class Event:
    """What a machine changed at once, and what it had heard by then."""

    def __init__(self, machine, number, past, changes):
        fault = fault_of(machine, number, past, changes)
        if fault is not None:
            raise BadEvent(fault)
        self.machine = machine
        self.number = number
        self.past = fixed(past)
        self.changes = tuple(sorted(fixed(changes)))
        self.id = (machine, number)

    def __eq__(self, other):
        return (
            isinstance(other, Event)
            and self.machine == other.machine
            and self.number == other.number
            and self.past == other.past
            and self.changes == other.changes
        )


def fault_of(machine, number, past, changes):
    """The name of the first one of these values that no such event has; None if there is one."""
    if not is_within(machine, 0, MOST_MACHINES - 1):
        return "machine"
    if not is_within(number, 1, MOST_COUNT):
        return "number"
    if not is_past_of(machine, number, past):
        return "past"
    if not are_changes(changes):
        return "changes"
    return None


def is_past_of(machine, number, past):
    """Whether any value is the past of an event of this machine with this number."""
    if not is_list(past) or not machine < len(past) <= MOST_MACHINES:
        return False
    return is_numbers(past, len(past), MOST_COUNT) and past[machine] == number - 1


def are_changes(value):
    """Whether any value is a list of changes that an event may have, in any order."""
    if not is_list(value) or not is_within(len(value), 1, MOST_CHANGES):
        return False
    if not all([is_change(part) for part in value]):
        return False
    told = list(fixed(value))
    return not any([one[0] == other[0] or are_at_odds(one, other) for one, other in combinations(told, 2)])


def is_in_past(one, other):
    """Whether the one of two events of as many machines is in the past of the other."""
    return other.past[one.machine] >= one.number
