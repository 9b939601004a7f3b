"""Machines: each has a disk, and on it a log of the events that it has heard."""

from meettrees.blocks import MOST_NUMBER
from meettrees.checks import is_lot, is_within
from meettrees.codes import event_of, row_of
from meettrees.deeds import event_for
from meettrees.disks import Disk
from meettrees.errors import BadDeed, BadDisk, BadLetter, BadLot, BadNumber, BadRow, Full, Misfit, Nothing, Off, On
from meettrees.events import MOST_MACHINES
from meettrees.heard import Heard, check_machine, heard_with
from meettrees.letters import Letter, answer, hello, news_among
from meettrees.logs import Log
from meettrees.plain import is_deed
from meettrees.settle import settle_event


class Begun:
    """What was begun: its word, the events that are heard when it is finished, and the letter that is taken."""

    def __init__(self, word, events, letter):
        self.word = word
        self.events = events
        self.letter = letter


class Machine:
    """A machine that comes up on a disk, and keeps this very disk."""

    def __init__(self, number, machines, disk):
        if not is_within(number, 0, MOST_MACHINES - 1):
            raise BadNumber("number")
        if not is_within(machines, 1, MOST_MACHINES):
            raise BadNumber("machines")
        if not isinstance(disk, Disk):
            raise BadDisk("disk")
        if number >= machines:
            raise Misfit("number")
        self.number = number
        self.machines = machines
        self.disk = disk
        self.done = ()
        self._come_up()

    @property
    def is_begun(self):
        """Whether something is begun."""
        return self._begun is not None

    @property
    def heard(self):
        """What it has heard."""
        if not self.is_up:
            raise Off()
        return self._heard

    def begin(self, deed):
        """Begins a deed."""
        if not is_deed(deed):
            raise BadDeed("deed")
        self._check_free()
        self._begin_event(event_for(self._heard, self.number, deed))

    def begin_settling(self, lot):
        """Begins to settle."""
        self._check_free()
        self._begin_event(settle_event(self._heard, self.number, lot))

    def begin_taking(self, letter):
        """Begins to take a letter."""
        if not isinstance(letter, Letter):
            raise BadLetter("letter")
        self._check_free()
        if len(letter.counts) != self.machines:
            raise Misfit("machines")
        if letter.to != self.number:
            raise Misfit("to")
        events = self._append_first(news_among(self._heard, letter.events))
        self._begun = Begun("take", events, letter)

    def begin_pressing(self):
        """Begins to press: copies the rows of all its events into the other half of its log."""
        self._check_free()
        self._log.copy([row_of(event) for event in self._heard.events])
        self._begun = Begun("press", (), None)

    def turn(self):
        """Turns the log, once its rows are copied."""
        self._check_up()
        if self._log.copied is None or self._log.is_turned:
            raise Misfit("turn")
        self._log.turn()

    def finish(self):
        """Finishes what was begun; returns the id of the event that it made, or the answer to the letter."""
        self._check_up()
        if self._begun is None:
            raise Nothing()
        begun = self._begun
        if begun.word == "press" and not self._log.is_turned:
            raise Misfit("turn")
        self._log.flush()
        self._begun = None
        self._heard = heard_with(self.machines, self._heard.events + begun.events)
        if begun.word == "take":
            return answer(self._heard, begun.letter, len(begun.events))
        if begun.word == "press":
            return None
        made = begun.events[0].id
        self.done = self.done + (made,)
        return made

    def do(self, deed):
        """Does a deed; returns the id of its event."""
        self.begin(deed)
        return self.finish()

    def settle(self, lot):
        """Settles; returns the id of the event."""
        self.begin_settling(lot)
        return self.finish()

    def take(self, letter):
        """Takes a letter; returns the answer, or None."""
        self.begin_taking(letter)
        return self.finish()

    def press(self):
        """Brings the log into the other half of the disk."""
        self._check_free()
        # Asked ahead of all: a log that cannot be turned would stay copied, and the machine begun.
        if self._log.epoch == MOST_NUMBER:
            raise Full()
        self.begin_pressing()
        self.turn()
        self.finish()

    def hello(self, to):
        """Its hello to another machine."""
        check_machine(self.machines, to)
        self._check_up()
        return hello(self._heard, self.number, to)

    def cut(self, landed):
        """Pulls its plug: only a lot of the held writes lands."""
        if not is_lot(landed, len(self.disk.held)):
            raise BadLot("landed")
        self._check_up()
        self.disk.cut(landed)
        self.is_up = False
        self._begun = None

    def up(self):
        """Comes up with what its log tells."""
        if self.is_up:
            raise On()
        self._come_up()

    def twin(self):
        """A second machine in the same state, with a disk of its own."""
        disk = Disk(self.disk.many)
        machine = Machine(self.number, self.machines, disk)
        disk.image = self.disk.image
        disk.held = self.disk.held
        machine.done = self.done
        machine.is_up = self.is_up
        machine._log = self._log.twin(disk)
        machine._heard = self._heard
        machine._begun = self._begun
        return machine

    def _come_up(self):
        """Takes for heard what the log on the disk tells."""
        log = Log(self.disk)
        self._heard = heard_in(self.machines, log.rows)
        self._log = log
        self._begun = None
        self.is_up = True

    def _check_up(self):
        """Raises Off if the machine is off."""
        if not self.is_up:
            raise Off()

    def _check_free(self):
        """Raises what forbids to begin anything now."""
        self._check_up()
        if self._begun is not None:
            raise Misfit("begun")

    def _begin_event(self, event):
        """Appends the event of a deed or a settling."""
        self._log.append(row_of(event))
        self._begun = Begun("make", (event,), None)

    def _append_first(self, events):
        """Appends the first ones of some events, as far as there is room; returns these."""
        for index, event in enumerate(events):
            try:
                self._log.append(row_of(event))
            except Full:
                return events[:index]
        return events


def heard_in(machines, rows):
    """What a machine has heard whose log has these rows."""
    events = tuple([event_in(machines, row) for row in rows])
    if len(news_among(Heard(machines, ()), events)) < len(events):
        raise Misfit("disk")
    return heard_with(machines, events)


def event_in(machines, row):
    """The event of so many machines whose row this is."""
    try:
        event = event_of(row)
    except BadRow:
        raise Misfit("disk")
    if len(event.past) != machines:
        raise Misfit("disk")
    return event
