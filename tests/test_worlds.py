"""Worlds."""

import itertools
import random
import time
import unittest

from meettrees.codes import row_of
from meettrees.errors import BadLine, BadNumber, MeetError
from meettrees.heard import Heard
from meettrees.histories import history
from meettrees.letters import Letter
from meettrees.logs import meaning
from meettrees.machines import Machine
from meettrees.pictures import web
from meettrees.quarrels import quarrels
from meettrees.settlings import shown
from meettrees.worlds import World, is_step
from histories import are_closed
from plain_world import PATHS, PlainWorld, some_deed, some_step
from tools import ODD_VALUES, listed, raised

A, B = ("a",), ("b",)
FORMS = {
    "do": 2, "settle": 2, "press": 1, "begin": 2, "begin_settling": 2, "begin_pressing": 1, "turn": 1, "finish": 1, "cut": 2,
    "up": 1, "send": 2, "take": 1, "begin_taking": 1, "lose": 1, "double": 1, "meet": 2, "gather": 0,
}


def state(world):
    """All that can be seen of a world."""
    return tuple(
        (one.is_up, one.is_begun, one.done, one.disk.image, one.disk.held, one.is_up and one.heard.counts)
        for one in world.machines
    ) + tuple(letter_state(letter) for letter in world.bag)


def letter_state(letter):
    """All that a letter tells."""
    return (letter.sender, letter.to, letter.counts, tuple(event.id for event in letter.events))


class StepTest(unittest.TestCase):
    def test_forms(self):
        for word, many in FORMS.items():
            for length in range(5):
                for value in ((word,) + (None,) * length, [word] + [object()] * length):
                    self.assertIs(is_step(value), length == many)
                    if length != many:
                        self.assertEqual(raised(World(1, 8).step, value), ("BadStep", "step"))
        for value in ODD_VALUES + ((), [], ("Gather",), ("",), (None,), (["gather"],), ("told", 1), {"gather"}, "gather",
                                   {"gather": 1}, ("run", []), ("hello", 1), ("twin",)):
            self.assertIs(is_step(value), False)
            self.assertEqual(raised(World(1, 8).step, value), ("BadStep", "step"))

    def test_new_worlds(self):
        for machines, blocks in ((1, 8), (8, 512), (3, 9)):
            world = World(machines=machines, blocks=blocks)
            self.assertEqual((world.bag, world.are_agreed(), len(world.machines)), ((), True, machines))
            for number, machine in enumerate(world.machines):
                self.assertIsInstance(machine, Machine)
                self.assertEqual((machine.number, machine.machines, machine.disk.many), (number, machines, blocks))
                self.assertTrue(machine.is_up and machine.heard == Heard(machines, []))
        disks = [id(machine.disk) for machine in World(8, 8).machines]
        self.assertEqual(len(set(disks)), 8)

    def test_wrong_numbers_in_their_order(self):
        for value in ODD_VALUES + (0, 9, 1.0):
            self.assertEqual(raised(World, value, None), ("BadNumber", "machines"))
        for value in ODD_VALUES + (7, 513, 8.0):
            self.assertEqual(raised(World, 1, value), ("BadNumber", "blocks"))

    def test_parts_in_their_order(self):
        world = World(2, 32)
        world.run([("send", 0, 1), ("begin", 1, ("make", A))])
        before = state(world)
        for value in ODD_VALUES + (2, -1, 0.0, 1.0, "0"):
            for word, many in FORMS.items():
                if word in ("take", "begin_taking", "lose", "double"):
                    self.assertEqual(raised(world.step, (word, value)), ("BadNumber", "at"))
                elif many:
                    self.assertEqual(raised(world.step, (word, value) + (None,) * (many - 1)), ("NoMachine", value))
            for word in ("send", "meet"):
                self.assertEqual(raised(world.step, (word, 1, value)), ("NoMachine", value))
        for step, error in (
            (("send", 1, 1), ("Misfit", "to")), (("meet", 1, 1), ("Misfit", "other")), (("take", 1), ("BadNumber", "at")),
            (("meet", 0, 1), ("Misfit", "begun")), (("meet", 1, 0), ("Misfit", "begun")), (("gather",), ("Misfit", "begun")),
            (("take", 0), ("Misfit", "begun")), (("begin_taking", 0), ("Misfit", "begun")), (("up", 0), ("On",)),
            (("do", 1, None), ("BadDeed", "deed")), (("do", 1, ("make", A)), ("Misfit", "begun")),
            (("begin", 0, ("drop", A)), ("Refused", "none", A)), (("settle", 0, None), ("Nothing",)),
            (("begin_settling", 1, None), ("Misfit", "begun")), (("press", 1), ("Misfit", "begun")),
            (("begin_pressing", 1), ("Misfit", "begun")), (("turn", 1), ("Misfit", "turn")), (("finish", 0), ("Nothing",)),
            (("cut", 1, [5]), ("BadLot", "landed")), (("cut", 0, None), ("BadLot", "landed")),
        ):
            self.assertEqual(raised(world.step, step), error, step)
            self.assertEqual(raised(world.step, list(step)), error, step)
        self.assertEqual(state(world), before)
        world.step(("cut", 0, ()))
        before = state(world)
        for step, error in (
            (("do", 0, None), ("BadDeed", "deed")), (("do", 0, ("make", A)), ("Off",)), (("settle", 0, None), ("Off",)),
            (("press", 0), ("Off",)), (("begin", 0, ("make", A)), ("Off",)), (("begin_settling", 0, None), ("Off",)),
            (("begin_pressing", 0), ("Off",)), (("turn", 0), ("Off",)), (("finish", 0), ("Off",)), (("cut", 0, []), ("Off",)),
            (("send", 0, 0), ("Off",)), (("send", 0, 2), ("NoMachine", 2)), (("meet", 0, 1), ("Off",)),
            (("meet", 1, 0), ("Off",)), (("meet", 0, 0), ("Misfit", "other")), (("send", 1, 1), ("Misfit", "to")),
        ):
            self.assertEqual(raised(world.step, step), error, step)
        self.assertEqual(state(world), before)
        self.assertIsNone(world.step(step=["up", 0]))


class RunTest(unittest.TestCase):
    def test_what_it_returns(self):
        world = World(2, 32)
        self.assertEqual(world.run(steps=[]), ())
        self.assertEqual(world.run([["do", 0, ["make", ["a"]]], ("gather",), ("do", 1, ("make", B))]), ((0, 1), None, (1, 1)))
        self.assertEqual(world.run((("begin", 0, ("drop", A)), ("finish", 0))), (None, (0, 2)))

    def test_the_first_that_raises(self):
        world = World(2, 32)
        with self.assertRaises(BadLine) as caught:
            world.run([("do", 0, ("make", A)), ("send", 0, 1), ("take", 1), ("do", 0, ("make", B))])
        self.assertEqual(caught.exception.line, 2)
        self.assertIsInstance(caught.exception.error, BadNumber)
        self.assertEqual(caught.exception.error.part, "at")
        self.assertEqual((len(world.bag), world.machines[0].heard.counts), (1, (1, 0)))
        for steps, line, name in (([None], 0, "BadStep"), ([("gather",), ("up", 1)], 1, "On"), ([("do", 5, 0)], 0, "NoMachine")):
            with self.assertRaises(BadLine) as caught:
                world.run(steps)
            self.assertEqual((caught.exception.line, type(caught.exception.error).__name__), (line, name))
        for value in ODD_VALUES:
            if not isinstance(value, (list, tuple)):
                self.assertEqual(raised(world.run, value), ("BadStep", "steps"))
        self.assertEqual(raised(world.run, {("gather",): 1}), ("BadStep", "steps"))


class BagTest(unittest.TestCase):
    def test_the_order_of_the_bag(self):
        world = World(3, 32)
        world.run([("send", 0, 1), ("send", 1, 2), ("send", 2, 0), ("do", 2, ("make", A)), ("double", 0)])
        self.assertEqual([(letter.sender, letter.to) for letter in world.bag], [(0, 1), (1, 2), (2, 0), (0, 1)])
        self.assertTrue(world.bag[0] == world.bag[3])
        world.step(("lose", 0))
        world.step(("take", 0))
        self.assertEqual([(letter.sender, letter.to) for letter in world.bag], [(2, 0), (0, 1), (2, 1)])
        self.assertTrue(world.bag[2] == Letter(2, 1, (0, 0, 1), world.machines[2].heard.events))
        self.assertEqual(world.bag[0].counts, (0, 0, 0))
        self.assertIsInstance(world.bag, tuple)

    def test_the_answer_comes_when_the_letter_is_finished(self):
        world = World(2, 32)
        world.run([("do", 1, ("make", A)), ("send", 0, 1), ("begin_taking", 0)])
        self.assertEqual((world.bag, world.machines[1].is_begun), ((), True))
        self.assertIsNone(world.step(("finish", 1)))
        self.assertTrue(world.bag[0] == Letter(1, 0, (0, 1), world.machines[1].heard.events))
        world.run([("begin_taking", 0), ("cut", 0, [])])
        self.assertEqual((world.bag, world.step(("up", 0)), world.machines[0].heard.counts), ((), None, (0, 0)))

    def test_letters_to_a_machine_that_is_off_are_gone(self):
        for word in ("take", "begin_taking"):
            world = World(2, 32)
            world.run([("send", 0, 1), ("double", 0), ("cut", 1, []), (word, 1), ("up", 1), (word, 0)])
            self.assertEqual((world.bag, world.machines[1].is_begun), ((), word == "begin_taking"))

    def test_letters_stay_if_their_machine_has_something_begun(self):
        world = World(2, 32)
        world.run([("send", 0, 1), ("do", 0, ("make", A)), ("send", 0, 1), ("begin_pressing", 1)])
        for at, word in itertools.product((0, 1), ("take", "begin_taking")):
            self.assertEqual(raised(world.step, (word, at)), ("Misfit", "begun"))
        self.assertEqual(len(world.bag), 2)
        world.run([("double", 0), ("lose", 0), ("turn", 1), ("finish", 1), ("take", 0), ("take", 0), ("take", 0)])
        self.assertEqual([len(letter.events) for letter in world.bag], [1])

    def test_what_is_done_to_a_machine_is_done_in_the_world(self):
        world = World(2, 32)
        world.machines[0].do(("make", A))
        self.assertEqual((world.are_agreed(), history(world).counts), (False, (1, 0)))
        reply = world.machines[0].take(world.machines[1].hello(0))
        self.assertEqual(world.bag, ())
        world.machines[1].take(reply)
        self.assertTrue(world.are_agreed())


class MeetingTest(unittest.TestCase):
    def test_both_have_the_greater_counts(self):
        world = World(3, 128)
        world.run([("do", at, ("make", (name,))) for at, names in enumerate(("abc", "defgh", "i")) for name in names])
        self.assertIsNone(world.step(("meet", 1, 0)))
        self.assertEqual([machine.heard.counts for machine in world.machines], [(3, 5, 0), (3, 5, 0), (0, 0, 1)])
        self.assertEqual((world.bag, world.are_agreed()), ((), False))
        world.run([("cut", 2, []), ("meet", 0, 1)])
        self.assertTrue(world.are_agreed())
        self.assertEqual(raised(world.step, ("meet", 0, 2)), ("Off",))
        # Off comes ahead of what is begun.
        world.step(("begin", 0, ("make", ("x",))))
        self.assertEqual(raised(world.step, ("meet", 0, 2)), ("Off",))
        self.assertEqual(raised(world.step, ("meet", 2, 0)), ("Off",))
        self.assertEqual(raised(world.step, ("meet", 0, 1)), ("Misfit", "begun"))

    def test_a_meeting_ends_if_there_is_no_room(self):
        # Machine 0 is full. It does not answer the event that it cannot hear; so nothing of its own is sent.
        world = World(2, 8)
        world.run([("do", number, ("make", (name,))) for number, name in ((0, "a"), (0, "b"), (0, "c"), (1, "d"))])
        for one, counts in ((0, [(3, 0), (0, 1)]), (1, [(3, 0), (2, 1)]), (0, [(3, 0), (2, 1)]), (1, [(3, 0), (2, 1)])):
            world.step(("meet", one, 1 - one))
            self.assertEqual([machine.heard.counts for machine in world.machines], counts)
        self.assertEqual(world.bag, ())

    def test_more_events_than_one_letter_brings(self):
        world = World(2, 512)
        for number, many in ((0, 45), (1, 21)):
            world.run([("do", number, ("write", ("p" + str(at),), str(number))) for at in range(many)])
        world.step(("meet", 0, 1))
        self.assertEqual([machine.heard.counts for machine in world.machines], [(45, 21)] * 2)
        self.assertEqual(len(quarrels(world.machines[0].heard)), 21)


class GatheringTest(unittest.TestCase):
    def test_all_that_are_up_are_agreed(self):
        for machines in range(1, 9):
            world = World(machines, 64)
            world.run([("do", at, ("make", ("m" + str(at),))) for at in range(machines)])
            world.run([("cut", at, ()) for at in range(machines) if at % 3 == 1])
            self.assertIsNone(world.step(("gather",)))
            wanted = tuple(int(at % 3 != 1) for at in range(machines))
            self.assertEqual({machine.heard.counts for machine in world.machines if machine.is_up}, {wanted})
            self.assertTrue(world.are_agreed())
            texts = {str(shown(machine.heard)) for machine in world.machines if machine.is_up}
            self.assertEqual(len(texts), 1)

    def test_the_least_one_meets_the_others_ascending(self):
        world = World(4, 64)
        world.run([("do", at, ("make", ("m" + str(at),))) for at in (3, 2, 1)])
        world.run([("cut", 0, []), ("gather",)])
        for at, wanted in ((1, (1, 2, 3)), (2, (2, 1, 3)), (3, (3, 1, 2))):
            rows = meaning(world.machines[at].disk.image).rows
            self.assertEqual(tuple(row[0] for row in rows), wanted)

    def test_who_is_off_or_has_something_begun(self):
        world = World(3, 32)
        world.run([("begin", 2, ("make", A)), ("do", 1, ("make", B))])
        self.assertEqual(raised(world.step, ("gather",)), ("Misfit", "begun"))
        self.assertEqual(world.machines[0].heard.counts, (0, 0, 0))
        world.run([("cut", 2, []), ("gather",)])
        self.assertEqual(world.machines[0].heard.counts, (0, 1, 0))
        world.run([("cut", 0, []), ("cut", 1, []), ("gather",)])
        self.assertTrue(world.are_agreed())
        world.run([("up", 2), ("gather",)])
        self.assertEqual((world.machines[2].heard.counts, world.are_agreed()), ((0, 0, 0), True))


class PlainTest(unittest.TestCase):
    def check_equal(self, world, plain):
        """A world is as the plain one; and what holds of all worlds holds of it."""
        self.assertEqual([letter_state(one) for one in world.bag], [letter_state(one) for one in plain.bag])
        self.assertEqual([machine.is_up for machine in world.machines], plain.is_up)
        self.assertEqual([list(machine.done) for machine in world.machines], plain.done)
        for at, machine in enumerate(world.machines):
            if not machine.is_up:
                continue
            self.assertEqual((machine.heard.counts, machine.is_begun), (plain.heards[at].counts, plain.begun[at] is not None))
            self.assertTrue(machine.heard == plain.heards[at])
            if plain.begun[at] is None:
                self.assertEqual(machine.disk.held, ())
                rows = meaning(machine.disk.image).rows
                self.assertEqual(sorted(rows), sorted(row_of(event) for event in machine.heard.events))
        counts = {machine.heard.counts for machine in world.machines if machine.is_up}
        self.assertIs(world.are_agreed(), len(counts) < 2)
        # What a machine shows is told by its counts.
        heards = [machine.heard for machine in world.machines if machine.is_up]
        shows = {(heard.counts, web(heard), str(shown(heard))) for heard in heards}
        self.assertEqual(len(shows), len(counts))

    def check_up(self, world, plain, machine):
        """What is heard behind coming up is one of what may be; the plain world takes it for its own."""
        found = [heard for heard in plain.may_come_up(machine) if heard == world.machines[machine].heard]
        self.assertEqual(len(found), 1)
        plain.heards[machine], plain.begun[machine] = found[0], None

    def test_runs_by_chance(self):
        dice = random.Random(1)
        words = {}
        for _ in range(16):
            machines = dice.randint(1, 4)
            world, plain = World(machines, 512), PlainWorld(machines)
            for _ in range(200):
                step = some_step(dice, plain, [len(machine.disk.held) for machine in world.machines])
                if step is None:
                    continue
                told, wanted = world.step(dice.choice((step, listed(step)))), plain.step(step)
                self.assertEqual(told, wanted)
                if step[0] == "up":
                    self.check_up(world, plain, step[1])
                self.check_equal(world, plain)
                words[step[0]] = words.get(step[0], 0) + 1
            # What all machines have heard is part of one history, and closed.
            heard = history(world)
            self.assertTrue(are_closed(machines, heard.events))
        self.assertEqual((len(words), min(words.values()) > 5), (len(FORMS), True), words)

    def test_small_disks(self):
        dice = random.Random(2)
        full = 0
        for _ in range(15):
            machines = dice.randint(2, 4)
            world = World(machines, dice.choice((8, 12, 20)))
            every = {}
            for _ in range(150):
                step = self.some_step(dice, world)
                before = state(world)
                error = raised(world.step, step)
                full += error == ("Full",)
                if error is not None:
                    self.assertEqual(state(world), before)
                for machine in world.machines:
                    if machine.is_up:
                        self.assertTrue(are_closed(machines, machine.heard.events))
                        # What was told done is heard for ever, and no two unlike events have one id.
                        self.assertTrue(all(machine.heard.has(key) for key in machine.done))
                        for event in machine.heard.events:
                            self.assertTrue(every.setdefault(event.id, event) == event)
                            # What any machine has heard is heard for ever by its maker.
                            maker = world.machines[event.machine]
                            self.assertTrue(not maker.is_up or maker.heard.has(event.id))
        self.assertGreater(full, 20)

    def some_step(self, dice, world):
        """A step by chance, which may well be refused."""
        at, to = dice.randrange(len(world.machines)), dice.randrange(len(world.machines))
        machine, letter = world.machines[at], dice.randrange(len(world.bag) + 1)
        landed = [index for index in range(len(machine.disk.held)) if dice.random() < 0.8]
        if not machine.is_up:
            return ("up", at)
        if machine.is_begun:
            return dice.choice((("finish", at), ("turn", at), ("finish", at), ("cut", at, landed), ("send", at, to)))
        return dice.choice((
            ("do", at, some_deed(dice)), ("do", at, some_deed(dice)), ("begin", at, some_deed(dice)), ("press", at),
            ("begin_pressing", at), ("do", at, ("write", ("c",), dice.choice("123"))), ("cut", at, landed),
            ("send", at, to), ("take", letter), ("take", letter), ("begin_taking", letter), ("lose", letter),
            ("double", letter) if len(world.bag) < 20 else ("lose", letter), ("meet", at, to), ("gather",),
        ))

    def test_taking_and_losing_empties_the_bag(self):
        dice = random.Random(3)
        for _ in range(20):
            machines = dice.randint(2, 4)
            world = World(machines, dice.choice((8, 16, 512)))
            for _ in range(80):
                at, to = dice.sample(range(machines), 2)
                raised(world.step, ("do", at, ("write", dice.choice(PATHS[:1] + PATHS[4:5]), dice.choice("123"))))
                if dice.random() < 0.3:
                    world.step(("send", at, to))
            steps = 0
            while world.bag:
                world.step((dice.choice(("take", "take", "take", "lose")), dice.randrange(len(world.bag))))
                steps += 1
                self.assertLess(steps, 3000)
            raised(world.step, ("gather",))
            if world.machines[0].disk.many == 512:
                self.assertTrue(world.are_agreed())
                self.assertEqual(len({str(shown(machine.heard)) for machine in world.machines}), 1)


class TwinTest(unittest.TestCase):
    def test_a_twin_goes_on_alone(self):
        dice = random.Random(4)
        for _ in range(6):
            world, plain = World(3, 128), PlainWorld(3)
            for _ in range(60):
                step = some_step(dice, plain, [len(machine.disk.held) for machine in world.machines])
                if step is None:
                    continue
                other, before = world.twin(), state(world)
                self.assertEqual(state(other), before)
                try:
                    other.step(step)
                except MeetError:
                    break
                self.assertEqual(state(world), before)
                world.step(step)
                plain.step(step)
                self.assertEqual(state(world), state(other))
                if step[0] == "up":
                    plain.heards[step[1]], plain.begun[step[1]] = world.machines[step[1]].heard, None


class TimeTest(unittest.TestCase):
    def test_eight_machines_in_a_short_time(self):
        begin = time.monotonic()
        world = World(8, 512)
        world.run([("do", at, ("write", ("p" + str(name),), str(at))) for name in range(15) for at in range(8)])
        world.step(("gather",))
        self.assertTrue(world.are_agreed())
        self.assertEqual(world.machines[7].heard.counts, (15,) * 8)
        self.assertEqual(len(quarrels(world.machines[7].heard)), 15 * 28)
        self.assertEqual(world.step(("do", 3, ("make", ("q",)))), (3, 16))
        self.assertLess(time.monotonic() - begin, 20)


if __name__ == "__main__":
    unittest.main()
