"""A desk: a world that is told lines."""

from meettrees.answers import asked
from meettrees.errors import BadNumber, TooMany
from meettrees.lines import DEED_LINES, line_told
from meettrees.pictures import NO_TEXT, words_text
from meettrees.quarrels import parts
from meettrees.settlings import settlings
from meettrees.worlds import World

MOST_LINES = 200


class Desk:
    """A desk with an empty log, and a new world of so many machines with disks of so many blocks."""

    def __init__(self, machines, blocks):
        # The world as it was ahead of each line of the log, and as it is now; none of them changes any more.
        self._worlds = (World(machines, blocks),)
        self.machines = machines
        self.blocks = blocks
        self.log = ()

    def __len__(self):
        return len(self.log)

    def __eq__(self, other):
        return (
            isinstance(other, Desk)
            and self.machines == other.machines
            and self.blocks == other.blocks
            and self.log == other.log
        )

    def told(self, line):
        """Tells it any value as a line; returns the answer."""
        word, *told = line_told(line, self.machines)
        if word not in DEED_LINES:
            return asked(self._worlds[-1], word, told)
        if len(self.log) >= MOST_LINES:
            raise TooMany("lines", MOST_LINES)
        world = self._worlds[-1].twin()
        key = world.step(step_for(world, word, told))
        self._worlds = self._worlds + (world,)
        self.log = self.log + (line,)
        return NO_TEXT if key is None else words_text(key)

    def undo(self):
        """Takes back the last deed; returns its line, or None if there is none."""
        if not self.log:
            return None
        line = self.log[-1]
        self.log = self.log[:-1]
        self._worlds = self._worlds[:-1]
        return line

    def twin(self):
        """A second desk with an equal log."""
        desk = Desk(self.machines, self.blocks)
        desk.log = self.log
        desk._worlds = self._worlds
        return desk


def step_for(world, word, told):
    """The step that a line tells."""
    if word not in ("settle", "begin_settling"):
        return (word, *told)
    number, index = told
    return (word, number, lot_at(world.machines[number].heard, index))


def lot_at(heard, index):
    """What the settling with this index chooses of the changes that quarrel."""
    found = settlings(heard, index + 1)
    if index >= len(found):
        raise BadNumber("index")
    inside = {key: True for part in parts(heard) for key in part}
    return [key for key in found[index] if key in inside]
