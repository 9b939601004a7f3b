"""Letters: what machines send one another, what is heard by it, and what is answered."""

from meettrees.checks import is_list, is_numbers, is_within
from meettrees.errors import BadHeard, BadLetter, BadNumber, Misfit
from meettrees.events import MOST_COUNT, MOST_MACHINES, Event
from meettrees.heard import Heard, check_heard, check_machine, heard_with, is_past_there
from meettrees.papers import fixed

MOST_EVENTS = 20


class Letter:
    """The counts of its sender, and some events."""

    def __init__(self, sender, to, counts, events):
        fault = letter_fault(sender, to, counts, events)
        if fault is not None:
            raise BadLetter(fault)
        self.sender = sender
        self.to = to
        self.counts = fixed(counts)
        self.events = tuple(events)

    def __eq__(self, other):
        return (
            isinstance(other, Letter)
            and self.sender == other.sender
            and self.to == other.to
            and self.counts == other.counts
            and self.events == other.events
        )


def letter_fault(sender, to, counts, events):
    """The name of the first one of these values that no such letter has; None if there is one."""
    if not is_within(sender, 0, MOST_MACHINES - 1):
        return "sender"
    if not is_within(to, 0, MOST_MACHINES - 1) or to == sender:
        return "to"
    if not is_list(counts) or not max(sender, to) < len(counts) <= MOST_MACHINES:
        return "counts"
    if not is_numbers(counts, len(counts), MOST_COUNT):
        return "counts"
    return None if are_events(events, len(counts)) else "events"


def are_events(value, machines):
    """Whether any value is a list of events that a letter between so many machines may bring."""
    if not is_list(value) or len(value) > MOST_EVENTS:
        return False
    return all([isinstance(event, Event) and len(event.past) == machines for event in value])


def hello(heard, sender, to):
    """The hello of a machine that has heard this."""
    check_heard(heard)
    check_meeters(heard, sender, to)
    return Letter(sender, to, heard.counts, ())


def taken(heard, letter):
    """What is heard once the letter is taken, and the events that were heard by it."""
    check_heard(heard)
    check_letter(letter)
    check_fit(heard, letter)
    news = news_among(heard, letter.events)
    return (heard_with(heard.machines, heard.events + news), news)


def answer(heard, letter, news):
    """The answer of the machine that took the letter, and heard so many events by it; None if there is none."""
    check_heard(heard)
    check_letter(letter)
    if not is_within(news, 0, len(letter.events)):
        raise BadNumber("news")
    check_fit(heard, letter)
    lacking = heard.lacking(letter.counts)
    lacks = any([its > mine for its, mine in zip(letter.counts, heard.counts)])
    if not lacking and not lacks:
        return None
    # Otherwise two machines, one of them full, would send the same events for ever.
    if letter.events and news == 0:
        return None
    return Letter(letter.to, letter.sender, heard.counts, lacking[:MOST_EVENTS])


def meeting(mine, its, sender, to):
    """All letters of an undisturbed meeting, and what both have heard behind it."""
    if not isinstance(mine, Heard):
        raise BadHeard("mine")
    if not isinstance(its, Heard):
        raise BadHeard("its")
    check_meeters(mine, sender, to)
    both = mine.joined(its)
    heards = {sender: mine, to: its}
    letters = []
    letter = hello(mine, sender, to)
    while letter is not None:
        letters.append(letter)
        heard, news = taken(heards[letter.to], letter)
        heards[letter.to] = heard
        letter = answer(heard, letter, len(news))
    return (tuple(letters), both)


def news_among(heard, events):
    """Those of some events, of as many machines, that are heard one after the other: each that is the next one."""
    by_id = {event.id: event for event in heard.events}
    news = []
    for event in events:
        if event.id not in by_id and is_past_there(event, by_id):
            by_id[event.id] = event
            news.append(event)
    return tuple(news)


def check_letter(letter):
    """Raises what any value raises that is no letter."""
    if not isinstance(letter, Letter):
        raise BadLetter("letter")


def check_fit(heard, letter):
    """Raises what a letter raises that goes between another number of machines."""
    if len(letter.counts) != heard.machines:
        raise Misfit("machines")


def check_meeters(heard, sender, to):
    """Raises what any values raise that are not two machines."""
    check_machine(heard.machines, sender)
    check_machine(heard.machines, to)
    if sender == to:
        raise Misfit("to")
