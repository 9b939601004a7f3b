"""Worlds: some machines, and the letters that are under way between them."""

from meettrees.checks import is_list, is_within
from meettrees.disks import LEAST_BLOCKS, MOST_BLOCKS, Disk
from meettrees.errors import BadLine, BadNumber, BadStep, MeetError, Misfit, Off
from meettrees.events import MOST_MACHINES
from meettrees.heard import check_machine
from meettrees.letters import Letter
from meettrees.machines import Machine

# For each word of a step what its parts are.
STEPS = {
    "do": ("machine", "deed"),
    "settle": ("machine", "lot"),
    "press": ("machine",),
    "begin": ("machine", "deed"),
    "begin_settling": ("machine", "lot"),
    "begin_pressing": ("machine",),
    "turn": ("machine",),
    "finish": ("machine",),
    "cut": ("machine", "landed"),
    "up": ("machine",),
    "send": ("machine", "to"),
    "take": ("at",),
    "begin_taking": ("at",),
    "lose": ("at",),
    "double": ("at",),
    "meet": ("one", "other"),
    "gather": (),
}
PARTS_OF_MACHINES = ("machine", "to", "one", "other")


def is_step(value):
    """Whether any value is the word of a step with as many parts, any values, as its form has."""
    if not is_list(value) or len(value) == 0 or not isinstance(value[0], str):
        return False
    return value[0] in STEPS and len(value) == 1 + len(STEPS[value[0]])


class World:
    """So many machines, each with a disk of so many blocks, and the bag."""

    def __init__(self, machines, blocks):
        if not is_within(machines, 1, MOST_MACHINES):
            raise BadNumber("machines")
        if not is_within(blocks, LEAST_BLOCKS, MOST_BLOCKS):
            raise BadNumber("blocks")
        self.machines = tuple([Machine(number, machines, Disk(blocks)) for number in range(machines)])
        self.bag = ()

    def step(self, step):
        """Does a step; returns the id of the event that was told done by it, otherwise None."""
        if not is_step(step):
            raise BadStep("step")
        word, *parts = step
        self._check_parts(word, parts)
        if word == "gather":
            self._gather()
        elif word == "meet":
            self._meet(parts[0], parts[1])
        elif word == "send":
            self._put(self.machines[parts[0]].hello(parts[1]))
        elif STEPS[word][0] == "at":
            self._do_in_bag(word, parts[0])
        else:
            return self._do_at(self.machines[parts[0]], word, parts)
        return None

    def run(self, steps):
        """Does some steps, one behind another; returns what they return."""
        if not is_list(steps):
            raise BadStep("steps")
        told = []
        for index, step in enumerate(steps):
            try:
                told.append(self.step(step))
            except MeetError as error:
                raise BadLine(index, error)
        return tuple(told)

    def are_agreed(self):
        """Whether all machines that are up have heard the same."""
        counts = [machine.heard.counts for machine in self.machines if machine.is_up]
        return all([one == counts[0] for one in counts])

    def twin(self):
        """A second world in the same state; what is done in one does not change the other."""
        world = World(len(self.machines), self.machines[0].disk.many)
        world.machines = tuple([machine.twin() for machine in self.machines])
        world.bag = self.bag
        return world

    def _check_parts(self, word, parts):
        """Raises what the parts of a step raise by themselves."""
        for name, value in zip(STEPS[word], parts):
            if name in PARTS_OF_MACHINES:
                check_machine(len(self.machines), value)
            if name == "at" and not is_within(value, 0, len(self.bag) - 1):
                raise BadNumber("at")
        if word == "meet" and parts[0] == parts[1]:
            raise Misfit("other")

    def _do_at(self, machine, word, parts):
        """Does a step at a machine, whose number is the first part."""
        match word:
            case "do":
                return machine.do(parts[1])
            case "settle":
                return machine.settle(parts[1])
            case "press":
                return machine.press()
            case "begin":
                return machine.begin(parts[1])
            case "begin_settling":
                return machine.begin_settling(parts[1])
            case "begin_pressing":
                return machine.begin_pressing()
            case "turn":
                return machine.turn()
            case "cut":
                return machine.cut(parts[1])
            case "up":
                return machine.up()
            case _:
                return self._finish(machine)

    def _finish(self, machine):
        """Finishes what a machine has begun; the answer to a letter goes into the bag."""
        told = machine.finish()
        if not isinstance(told, Letter):
            return told
        self._put(told)
        return None

    def _do_in_bag(self, word, at):
        """Does a step with the letter at this index of the bag."""
        letter = self.bag[at]
        if word == "double":
            self._put(letter)
            return
        machine = self.machines[letter.to]
        reply = None
        # What the machine raises comes ahead of all: then the letter stays in the bag.
        if machine.is_up and word == "take":
            reply = machine.take(letter)
        if machine.is_up and word == "begin_taking":
            machine.begin_taking(letter)
        self.bag = self.bag[:at] + self.bag[at + 1:]
        if reply is not None:
            self._put(reply)

    def _put(self, letter):
        """Puts a letter in the bag, behind all that is in it."""
        self.bag = self.bag + (letter,)

    def _meet(self, one, other):
        """Lets two machines meet, the one sending the hello."""
        for number in (one, other):
            if not self.machines[number].is_up:
                raise Off()
        for number in (one, other):
            if self.machines[number].is_begun:
                raise Misfit("begun")
        letter = self.machines[one].hello(other)
        while letter is not None:
            letter = self.machines[letter.to].take(letter)

    def _gather(self):
        """Lets the least machine that is up meet all others, and then once more."""
        ups = [machine.number for machine in self.machines if machine.is_up]
        if any([self.machines[number].is_begun for number in ups]):
            raise Misfit("begun")
        for other in ups[1:] + ups[1:]:
            self._meet(ups[0], other)
