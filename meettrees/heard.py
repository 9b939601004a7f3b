"""What a machine has heard: events that are closed."""

from meettrees.checks import is_list, is_numbers, is_within
from meettrees.errors import BadEvent, BadHeard, BadNumber, Misfit, NoChange, NoEvent, NoMachine
from meettrees.events import MOST_COUNT, MOST_MACHINES, Event, is_in_past
from meettrees.papers import fixed


class Heard:
    """Closed events of so many machines."""

    def __init__(self, machines, events):
        if not is_within(machines, 1, MOST_MACHINES):
            raise BadHeard("machines")
        if not are_closed(machines, events):
            raise BadHeard("events")
        self.machines = machines
        self._hear(events)

    def __eq__(self, other):
        return isinstance(other, Heard) and self.machines == other.machines and self.events == other.events

    def has(self, key):
        """Whether any value is the id of an event that is heard."""
        return is_numbers(key, 2, None) and fixed(key) in self._by_id

    def event(self, key):
        """The event with this id."""
        if not self.has(key):
            raise NoEvent(key)
        return self._by_id[fixed(key)]

    def with_event(self, event):
        """The Heard with one event more, the next one of its machine."""
        if not isinstance(event, Event):
            raise BadEvent("event")
        # That its number is the next one is told by its past, which has the number less 1 at its machine.
        if len(event.past) != self.machines or event.id in self._by_id or not is_past_there(event, self._by_id):
            raise Misfit("next")
        return heard_with(self.machines, self.events + (event,))

    def joined(self, other):
        """The Heard of all events of both."""
        if not isinstance(other, Heard):
            raise BadHeard("other")
        if other.machines != self.machines:
            raise Misfit("machines")
        both = {event.id: event for event in self.events}
        for event in other.events:
            if both.setdefault(event.id, event) != event:
                raise Misfit("unlike")
        return heard_with(self.machines, list(both.values()))

    def lacking(self, counts):
        """The events, in order, whose number is above the count of their maker."""
        if not is_numbers(counts, self.machines, MOST_COUNT):
            raise BadNumber("counts")
        return tuple([event for event in self.events if event.number > counts[event.machine]])

    def _hear(self, events):
        """Sets what is heard to events that are known to be closed."""
        counts = [0] * self.machines
        for event in events:
            counts[event.machine] += 1
        self.counts = tuple(counts)
        self.events = tuple(sorted(events, key=order_of))
        self._by_id = {event.id: event for event in self.events}


def heard_with(machines, events):
    """The Heard of events that are known to be closed."""
    heard = Heard(machines, ())
    heard._hear(events)
    return heard


def order_of(event):
    """What tells the place of an event among those that are heard."""
    return (sum(event.past), event.machine)


def are_closed(machines, events):
    """Whether any value is a list of closed events of so many machines."""
    if not is_list(events) or not all([isinstance(event, Event) for event in events]):
        return False
    by_id = {event.id: event for event in events}
    if len(by_id) < len(events) or not all([len(event.past) == machines for event in events]):
        return False
    return all([is_past_there(event, by_id) for event in events])


def is_past_there(event, by_id):
    """Whether the last event that a past tells of each machine is there, with a past that tells nowhere more.

    What that machine made earlier is in the past of its last event; so it is enough to look at this one.
    """
    for machine, count in enumerate(event.past):
        if count > 0:
            last = by_id.get((machine, count))
            if last is None or any([its > mine for its, mine in zip(last.past, event.past)]):
                return False
    return True


def check_heard(heard):
    """Raises what any value raises that is told as what is heard."""
    if not isinstance(heard, Heard):
        raise BadHeard("heard")


def check_machine(machines, value):
    """Raises what any value raises that is the number of none of so many machines."""
    if not is_within(value, 0, machines - 1):
        raise NoMachine(value)


def is_past(heard, one, other):
    """Whether the event with the id one is in the past of the event with the id other."""
    check_heard(heard)
    mine = heard.event(one)
    its = heard.event(other)
    return is_in_past(mine, its)


def changes(heard):
    """The ids of all changes, ascending."""
    check_heard(heard)
    return tuple([key for key, _, _ in entries_of(heard)])


def change(heard, key):
    """The change with this id."""
    check_heard(heard)
    check_change(heard, key)
    return heard.event(key[:2]).changes[key[2]]


def entries_of(heard):
    """For each change its id, its event and itself, as the ids ascend."""
    return sorted([
        ((event.machine, event.number, index), event, told)
        for event in heard.events
        for index, told in enumerate(event.changes)
    ])


def check_change(heard, key):
    """Raises what any value raises that is none of the ids of changes that are heard."""
    if not is_numbers(key, 3, None) or not heard.has(key[:2]):
        raise NoChange(key)
    if key[2] >= len(heard.event(key[:2]).changes):
        raise NoChange(key)
