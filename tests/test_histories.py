"""The history of a world."""

import random
import unittest

from meettrees.heard import Heard
from meettrees.histories import history, lacked
from meettrees.worlds import World
from histories import in_order
from plain_world import PlainWorld, some_step
from tools import NO_MACHINES, ODD_VALUES, raised


class HistoryTest(unittest.TestCase):
    def test_by_chance(self):
        dice = random.Random(1)
        found = 0
        for _ in range(10):
            machines = dice.randint(1, 5)
            world, plain = World(machines, 512), PlainWorld(machines)
            for _ in range(60):
                step = some_step(dice, plain, [len(machine.disk.held) for machine in world.machines])
                if step is None or step[0] == "begin_settling":
                    continue
                world.step(step)
                plain.step(step)
                if step[0] == "up":
                    plain.heards[step[1]], plain.begun[step[1]] = world.machines[step[1]].heard, None
                events = {event.id: event for at in plain.ups() for event in plain.heards[at].events}
                heard = history(world)
                self.assertTrue(heard == Heard(machines, list(events.values())))
                for at in range(machines):
                    if at not in plain.ups():
                        self.assertEqual(raised(lacked, world, at), ("Off",))
                        continue
                    wanted = [event.id for event in in_order(events.values()) if not plain.heards[at].has(event.id)]
                    self.assertEqual(lacked(world, at), tuple(wanted))
                    found += len(wanted)
        self.assertGreater(found, 100)

    def test_machines_that_are_off_are_passed_by(self):
        world = World(2, 32)
        world.run([("do", 0, ("make", ("a",))), ("do", 1, ("make", ("b",))), ("begin", 1, ("make", ("c",)))])
        self.assertEqual((history(world).counts, lacked(world, 0), lacked(world, 1)), ((1, 1), ((1, 1),), ((0, 1),)))
        world.step(("cut", 1, []))
        self.assertEqual((history(world).counts, lacked(world, 0)), ((1, 0), ()))
        world.step(("cut", 0, []))
        self.assertTrue(history(world=world) == Heard(2, []))
        self.assertEqual(raised(lacked, world, 0), ("Off",))
        self.assertTrue(history(World(8, 8)) == Heard(8, []))

    def test_wrong_in_their_order(self):
        for value in ODD_VALUES + (World, Heard(1, [])):
            self.assertEqual(raised(history, value), ("BadWorld", "world"))
            self.assertEqual(raised(lacked, value, None), ("BadWorld", "world"))
        world = World(2, 8)
        world.step(("cut", 0, []))
        for value in NO_MACHINES + (2, -1):
            self.assertEqual(raised(lacked, world, value), ("NoMachine", value))
        self.assertEqual((raised(lacked, world, 0), lacked(world=world, machine=1)), (("Off",), ()))


if __name__ == "__main__":
    unittest.main()
