"""The history of a world: what its machines have heard together."""

from meettrees.errors import BadWorld
from meettrees.heard import Heard, check_machine
from meettrees.worlds import World


def history(world):
    """What any machine that is up has heard."""
    check_world(world)
    heard = Heard(len(world.machines), ())
    for machine in world.machines:
        if machine.is_up:
            heard = heard.joined(machine.heard)
    return heard


def lacked(world, machine):
    """The ids of the events of the history that a machine has not heard, in order."""
    check_world(world)
    check_machine(len(world.machines), machine)
    counts = world.machines[machine].heard.counts
    return tuple([event.id for event in history(world).lacking(counts)])


def check_world(world):
    """Raises what any value raises that is no world."""
    if not isinstance(world, World):
        raise BadWorld("world")
