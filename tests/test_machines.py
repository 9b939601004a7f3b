"""Machines."""

import itertools
import random
import time
import unittest

from meettrees.codes import row_of
from meettrees.deeds import event_for
from meettrees.disks import Disk
from meettrees.errors import Off
from meettrees.events import Event
from meettrees.heads import head_block
from meettrees.heard import Heard
from meettrees.letters import Letter, answer, hello, taken
from meettrees.logs import Log, meaning
from meettrees.machines import Machine
from meettrees.quarrels import quarrels
from meettrees.records import record_blocks
from meettrees.settlings import shown
from histories import are_closed, in_order, some_history
from tools import NO_MACHINES, ODD_DEEDS, ODD_VALUES, block, copy_of, lots, raised

A, X, B = ("a",), ("a", "x"), ("b",)
FOLDER, ONE, TWO = ("folder",), ("file", "1"), ("file", "2")


def made(machine, number, machines, path=A, value=FOLDER, past=None):
    """An event with one change, whose maker had heard of its own ones alone."""
    past = list(past or [0] * machines)
    past[machine] = number - 1
    return Event(machine, number, past, [(path, value)])


def chain(machine, many, machines):
    """Events of one machine, one behind another; the row of each stands in one or two blocks."""
    return [made(machine, number, machines, value=("file", str(number))) for number in range(1, many + 1)]


def disk_of(events, many=64, stamp=1):
    """A disk whose log has the rows of these events."""
    return disk_of_rows([row_of(event) for event in events], many, stamp)


def disk_of_rows(rows, many=64, stamp=1, head=block()):
    """A disk whose log, in its first half, has these rows."""
    blocks = [part for number, row in enumerate(rows) for part in record_blocks(stamp, number, row)]
    return Disk.of([head, block(), *blocks] + [block()] * (many - 2 - len(blocks)))


def state(machine):
    """All that can be seen of a machine."""
    heard = machine.heard.events if machine.is_up else None
    disk = machine.disk
    return (machine.is_up, machine.is_begun, machine.done, disk.image, disk.held, heard and [e.id for e in heard])


class BeginningTest(unittest.TestCase):
    def test_attributes(self):
        for machines in range(1, 9):
            for number in range(machines):
                disk = Disk(8)
                machine = Machine(number=number, machines=machines, disk=disk)
                self.assertEqual((machine.number, machine.machines, machine.done), (number, machines, ()))
                self.assertIs(machine.disk, disk)
                self.assertTrue(machine.is_up is True and machine.is_begun is False)
                self.assertTrue(machine.heard == Heard(machines, []))

    def test_it_comes_up_with_what_its_log_tells(self):
        dice = random.Random(1)
        for _ in range(30):
            machines = dice.randint(1, 5)
            events = some_history(dice, machines, dice.randint(0, 8))
            # Each row is the next one when it came: any order in which each stands behind its past.
            told, lying = [], list(events)
            while lying:
                event = dice.choice([event for event in lying if are_closed(machines, told + [event])])
                told.append(event)
                lying.remove(event)
            machine = Machine(dice.randrange(machines), machines, disk_of(told, 128))
            self.assertTrue(machine.heard == Heard(machines, events))
            self.assertEqual((machine.done, machine.disk.held), ((), ()))

    def test_misfit_of_a_disk(self):
        one, two, other = made(0, 1, 2), made(0, 2, 2), made(1, 1, 2, past=[1, 0])
        for events in ([one, two, other], [one, other, two], [], [one]):
            self.assertIsNone(raised(Machine, 1, 2, disk_of(events)))
        for events in ([two], [other], [one, one], [one, two, two], [one, two, one], [other, one], [one, made(0, 3, 2)]):
            self.assertEqual(raised(Machine, 0, 2, disk_of(events)), ("Misfit", "disk"))
        # Not closed: machine 1 had heard of two, whose maker had heard of another event of machine 2.
        odd = [made(2, 1, 3), made(0, 1, 3, past=[0, 0, 1]), made(1, 1, 3, past=[1, 0, 0])]
        self.assertEqual(raised(Machine, 0, 3, disk_of(odd)), ("Misfit", "disk"))
        # Rows of events of fewer and of more machines, and rows that are none of events.
        for events in ([made(0, 1, 1)], [made(0, 1, 3)], [one, made(0, 2, 3)]):
            self.assertEqual(raised(Machine, 0, 2, disk_of(events)), ("Misfit", "disk"))
        for row in ([], [0], [0] * 2000, row_of(one) + (0,), row_of(one)[:-1], [65535] * 5):
            self.assertEqual(raised(Machine, 0, 2, disk_of_rows([row], 512)), ("Misfit", "disk"))
            self.assertEqual(raised(Machine, 0, 2, disk_of_rows([row_of(one), row], 512)), ("Misfit", "disk"))

    def test_wrong_in_their_order(self):
        for value in ODD_VALUES + (8, -1, 1.0):
            self.assertEqual(raised(Machine, value, None, None), ("BadNumber", "number"))
        for value in ODD_VALUES + (0, 9, 8.0):
            self.assertEqual(raised(Machine, 7, value, None), ("BadNumber", "machines"))
        for value in ODD_VALUES + (Log(Disk(8)), Machine(0, 1, Disk(8)), Disk):
            self.assertEqual(raised(Machine, 7, 1, value), ("BadDisk", "disk"))
        held = disk_of_rows([[5]])
        held.write(0, block())
        self.assertEqual(raised(Machine, 1, 1, held), ("Misfit", "number"))
        self.assertEqual(raised(Machine, 0, 1, held), ("Misfit", "held"))
        self.assertEqual(raised(Machine, 0, 1, disk_of_rows([[5]])), ("Misfit", "disk"))
        self.assertEqual(len(held.held), 1)


class DeedTest(unittest.TestCase):
    def test_what_is_begun_is_waiting(self):
        machine = Machine(1, 2, Disk(32))
        for number, deed in enumerate((("make", A), ("write", ["a", "x"], "1"), ("drop", X), ("make", B)), 1):
            before, image = machine.heard, machine.disk.image
            event = event_for(before, 1, deed)
            self.assertIsNone(machine.begin(deed))
            self.assertTrue(machine.is_begun and machine.heard == before)
            self.assertEqual((machine.disk.image, machine.done), (image, tuple((1, at) for at in range(1, number))))
            self.assertGreater(len(machine.disk.held), 0)
            self.assertTrue(machine.hello(0) == hello(before, 1, 0))
            self.assertEqual(machine.finish(), (1, number))
            self.assertTrue(machine.heard == before.with_event(event))
            self.assertEqual((machine.is_begun, machine.disk.held), (False, ()))
            self.assertEqual(meaning(machine.disk.image).rows[-1], row_of(event))
        self.assertEqual(machine.done, ((1, 1), (1, 2), (1, 3), (1, 4)))

    def test_at_once(self):
        one, other = Machine(0, 1, Disk(32)), Machine(0, 1, Disk(32))
        for deed in (("make", A), ("write", X, "1"), ["move", X, B]):
            one.begin(deed)
            self.assertEqual((one.finish(), state(one)), (other.do(deed=deed), state(other)))
        self.assertEqual(str(shown(other.heard)).splitlines(), ["/a folder", "/b file 1"])

    def test_settling(self):
        events = [made(0, 1, 2, A, ONE), made(1, 1, 2, A, TWO), made(0, 2, 2, B, ONE)]
        for at_once in (True, False):
            machine = Machine(1, 2, disk_of(events))
            if at_once:
                self.assertEqual(machine.settle(lot=[[1, 1, 0]]), (1, 2))
            else:
                self.assertIsNone(machine.begin_settling(((1, 1, 0),)))
                self.assertEqual((len(quarrels(machine.heard)), machine.is_begun, machine.done), (1, True, ()))
                self.assertEqual(machine.finish(), (1, 2))
            self.assertEqual((quarrels(machine.heard), shown(machine.heard).at(A)), ((), TWO))
            self.assertEqual((machine.done, machine.is_begun), (((1, 2),), False))
            self.assertEqual(raised(machine.settle, [(1, 2, 0)]), ("Nothing",))

    def test_a_settling_that_cannot_be(self):
        machine = Machine(0, 2, disk_of([made(0, 1, 2, A, ONE), made(1, 1, 2, A, TWO)]))
        before = state(machine)
        for call in (machine.settle, machine.begin_settling):
            for lot in ODD_VALUES + ([], [(0, 1, 0), (1, 1, 0)], [(0, 2, 0)]):
                self.assertEqual(raised(call, lot), ("BadLot", "lot"))
        wide = Machine(0, 2, disk_of(
            [Event(at, 1, [0, 0], [(("b",), ("none",))] if at else [(("b", "c" + str(name)), ONE) for name in range(14)])
             for at in (0, 1)], 128))
        self.assertEqual(raised(wide.settle, [(0, 1, index) for index in range(14)]), ("TooMany", "changes", 14))
        self.assertEqual((state(machine), wide.is_begun), (before, False))

    def test_refused_deeds_begin_nothing(self):
        machine = Machine(0, 1, Disk(32))
        machine.do(("make", A))
        before = state(machine)
        for call in (machine.do, machine.begin):
            self.assertEqual(raised(call, ("make", A)), ("Refused", "there", A))
            self.assertEqual(raised(call, ("drop", ())), ("Refused", "root", ()))
            for deed in ODD_DEEDS:
                self.assertEqual(raised(call, deed), ("BadDeed", "deed"))
        self.assertEqual(state(machine), before)

    def test_a_full_half(self):
        # A half of a disk of 8 blocks has 3 spots; each of these rows has one block.
        machine = Machine(0, 1, Disk(8))
        for name in "abc":
            machine.do(("make", (name,)))
        before = state(machine)
        for call, passed in ((machine.do, ("make", ("d",))), (machine.begin, ("drop", A))):
            self.assertEqual(raised(call, passed), ("Full",))
            self.assertEqual(state(machine), before)
        # What is not let comes ahead; pressing makes no room.
        self.assertEqual(raised(machine.do, ("make", A)), ("Refused", "there", A))
        machine.press()
        self.assertEqual(raised(machine.do, ("make", ("d",))), ("Full",))
        self.assertEqual(str(shown(machine.heard)).splitlines(), ["/a folder", "/b folder", "/c folder"])

    def test_no_room_to_settle(self):
        # Two rows of one block each, and a third one of one block; a row of a file has two.
        roomy = Machine(0, 2, disk_of([made(0, 1, 2, A, ("none",)), made(1, 1, 2, A, FOLDER)], 8))
        self.assertEqual(roomy.settle([(0, 1, 0)]), (0, 2))
        full = Machine(0, 2, disk_of([made(0, 1, 2, A, ONE), made(1, 1, 2, A, FOLDER)], 8))
        before = state(full)
        for call in (full.settle, full.begin_settling):
            self.assertEqual(raised(call, [(0, 1, 0)]), ("Full",))
            self.assertEqual(raised(call, [(0, 1, 1)]), ("BadLot", "lot"))
        self.assertEqual(state(full), before)

    def test_the_greatest_disk_and_the_greatest_row(self):
        machine = Machine(0, 1, Disk(512))
        names = [chr(97 + at) * 12 for at in range(6)]
        for length in range(1, 6):
            machine.do(("make", names[:length]))
        machine.do(("write", names, "~" * 60))
        event = Event(0, 1, [0] * 8, [(names[:5] + ["n" * 10 + str(at + 10)], ("file", "~" * 60)) for at in range(14)])
        self.assertEqual(len(row_of(event)), 12 + 14 * (1 + 6 * 13 + 62))
        # Its record has 166 blocks: a half of a disk of 512 has 255 of them, one of 128 has 63.
        for many, counts in ((512, (1,) + (0,) * 7), (128, (0,) * 8)):
            wide = Machine(7, 8, Disk(many))
            self.assertIsNone(wide.take(Letter(0, 7, [1] + [0] * 7, [event])))
            self.assertEqual((wide.heard.counts, wide.disk.held), (counts, ()))
        again = Machine(0, 8, disk_of([event], 512))
        self.assertEqual(again.heard.counts, (1,) + (0,) * 7)


class CutTest(unittest.TestCase):
    def check_comings(self, machine, events):
        """Of what was begun the first ones are heard behind any cut, none of them up to all, and just these can be."""
        wanted = [machine.heard.counts]
        heard = machine.heard
        for event in events:
            heard = heard.with_event(event)
            wanted.append(heard.counts)
        held = len(machine.disk.held)
        found = {}
        all_lots = lots(held) if held <= 7 else [
            [index for index in range(held) if self.dice.random() < share] for share in (0.5, 0.7, 0.9, 0.95) for _ in range(15)
        ] + [range(at) for at in range(held + 1)]
        for lot in all_lots:
            disk = copy_of(machine.disk)
            disk.cut(list(lot))
            again = Machine(machine.number, machine.machines, disk)
            self.assertIn(again.heard.counts, wanted)
            known = list(machine.heard.events) + list(events)
            self.assertTrue(all(any(event == one for one in known) for event in again.heard.events))
            found[again.heard.counts] = True
        self.assertEqual(sorted(found), sorted(set(wanted)))

    def test_runs_of_a_machine(self):
        self.dice = dice = random.Random(1)
        paths = [("a",), ("a", "x"), ("b",), ("c",)]
        for _ in range(12):
            machine = Machine(0, 2, Disk(dice.choice((24, 64, 128))))
            its = Heard(2, [])
            done = []
            for _ in range(25):
                events = ()
                kind = dice.choice(("deed", "deed", "letter", "press", "idle"))
                if kind == "deed":
                    deed = dice.choice((("make", dice.choice(paths)), ("write", dice.choice(paths), dice.choice("12"))))
                    if raised(machine.begin, deed) is not None:
                        continue
                    events = (event_for(machine.heard, 0, deed),)
                if kind == "letter":
                    its = machine.heard.joined(its)
                    for _ in range(dice.randint(0, 3)):
                        its = its.with_event(Event(1, its.counts[1] + 1, its.counts, [(("d",), ("file", dice.choice("12")))]))
                    letter = answer(its, hello(machine.heard, 0, 1), 0) or hello(its, 1, 0)
                    machine.begin_taking(letter)
                    rows = comings_of_letter(machine)
                    events = letter.events[:rows]
                if kind == "press" and raised(machine.begin_pressing) is None and dice.random() < 0.7:
                    machine.turn()
                self.check_comings(machine, events)
                before, counts = machine.heard, machine.heard.counts
                if machine.is_begun and dice.random() < 0.6 and raised(machine.finish) is None:
                    self.assertEqual([event.id for event in machine.heard.lacking(counts)],
                                     sorted([event.id for event in events]))
                    done += [event.id for event in events if kind == "deed"]
                else:
                    self.assertIsNone(machine.cut([at for at in range(len(machine.disk.held)) if dice.random() < 0.7]))
                    self.assertEqual((machine.is_up, machine.is_begun), (False, False))
                    with self.assertRaises(Off):
                        machine.heard
                    self.assertIsNone(machine.up())
                    self.assertEqual(before.lacking(machine.heard.counts), ())
                self.assertEqual((machine.is_up, machine.is_begun, machine.done), (True, False, tuple(done)))
                # What was told done is heard for ever.
                self.assertTrue(all(machine.heard.has(key) for key in done))

    def test_a_number_is_given_again_if_its_row_was_not_found(self):
        machine = Machine(0, 1, Disk(32))
        machine.do(("make", A))
        machine.begin(("make", B))
        machine.cut([])
        machine.up()
        self.assertEqual((machine.do(("make", ("c",))), str(shown(machine.heard))), ((0, 2), "/a folder\n/c folder"))
        machine.begin(("make", B))
        machine.cut([0])
        machine.up()
        self.assertEqual((machine.heard.counts, machine.done), ((3,), ((0, 1), (0, 2))))
        self.assertEqual(machine.do(("write", ("d",), "")), (0, 4))

    def test_cut_while_nothing_is_begun(self):
        machine = Machine(0, 1, Disk(16))
        machine.do(("make", A))
        self.assertEqual(raised(machine.cut, [0]), ("BadLot", "landed"))
        self.assertIsNone(machine.cut(landed=()))
        self.assertEqual(raised(machine.cut, [0]), ("BadLot", "landed"))
        self.assertEqual(raised(machine.cut, []), ("Off",))
        machine.up()
        self.assertEqual((machine.heard.counts, machine.done, raised(machine.up)), ((1,), ((0, 1),), ("On",)))

    def test_wrong_lots(self):
        machine = Machine(0, 1, Disk(32))
        machine.begin(("write", A, "a" * 30))
        self.assertEqual(len(machine.disk.held), 4)
        before = state(machine)
        for lot in ODD_VALUES + ([4], [1, 0], [0, 0], [0, True], [0.0], (0, 1, 2, 3, 4), {0}, "0", [-1], range(2)):
            self.assertEqual(raised(machine.cut, lot), ("BadLot", "landed"), lot)
        self.assertEqual(state(machine), before)
        machine.cut((0, 1, 3))
        self.assertEqual([block[0] for block in machine.disk.image[2:6]], [1, 1, 0, 1])


def comings_of_letter(machine):
    """How many rows wait: as many as heads of records stand in what is held."""
    return len([what for _, what in machine.disk.held if what[2] == 0])


class LetterTest(unittest.TestCase):
    def test_taking_by_chance(self):
        dice = random.Random(2)
        for _ in range(40):
            machines = dice.randint(2, 4)
            events = in_order(some_history(dice, machines, dice.randint(1, 12)))
            number = dice.randrange(machines)
            machine = Machine(number, machines, disk_of(events[:dice.randint(0, len(events))], 256))
            sender = dice.choice([at for at in range(machines) if at != number])
            told = [dice.choice(events) for _ in range(dice.randint(0, 20))]
            told = in_order(told) if dice.random() < 0.5 else told
            letter = Letter(sender, number, [dice.randint(0, 5) for _ in range(machines)], told)
            heard, news = taken(machine.heard, letter)
            before = machine.heard
            self.assertIsNone(machine.begin_taking(letter))
            self.assertTrue(machine.is_begun and machine.heard == before)
            self.assertEqual(comings_of_letter(machine), len(news))
            wanted = answer(heard, letter, len(news))
            reply = machine.finish()
            self.assertTrue(reply == wanted if wanted is not None else reply is None)
            self.assertTrue(machine.heard == heard)
            self.assertEqual((machine.is_begun, machine.done), (False, ()))
            self.assertTrue(Machine(number, machines, copy_of(machine.disk)).heard == heard)

    def test_at_once(self):
        events = chain(0, 3, 2)
        letter = Letter(0, 1, [4, 0], events)
        machine, other = Machine(1, 2, Disk(32)), Machine(1, 2, Disk(32))
        reply = machine.take(letter=letter)
        other.begin_taking(letter)
        self.assertTrue(reply == other.finish() == Letter(1, 0, (3, 0), ()))
        self.assertEqual(state(machine), state(other))

    def test_as_far_as_there_is_room(self):
        # Three spots; the row of each of these events has one block, that of the long one has four.
        events = [made(0, at, 2, path) for at, path in enumerate((A, B, ("c",), ("d",)), 1)]
        long = made(0, 2, 2, B, ("file", "a" * 25))
        machine = Machine(1, 2, Disk(8))
        self.assertTrue(machine.take(Letter(0, 1, [4, 0], events)) == Letter(1, 0, (3, 0), []))
        self.assertEqual(machine.heard.counts, (3, 0))
        before = state(machine)
        # Full: nothing is heard, and not answered; but a hello is.
        self.assertIsNone(machine.take(Letter(0, 1, [4, 0], events)))
        self.assertTrue(machine.take(Letter(0, 1, [4, 0], [])) == Letter(1, 0, (3, 0), []))
        self.assertEqual(state(machine), before)
        # All behind the one that has no room is let lie, though it would fit.
        machine, beside = Machine(1, 3, Disk(8)), made(2, 1, 3, B)
        told = [made(0, 1, 3), Event(0, 2, [1, 0, 0], long.changes), beside]
        self.assertTrue(machine.take(Letter(0, 1, [2, 0, 1], told)) == Letter(1, 0, (1, 0, 0), ()))
        self.assertEqual((machine.heard.counts, raised(machine.take, Letter(2, 1, [0, 0, 1], [beside]))), ((1, 0, 0), None))
        self.assertEqual(machine.heard.counts, (1, 0, 1))

    def test_letters_of_twenty_events(self):
        events = chain(0, 20, 2)
        machine = Machine(1, 2, Disk(128))
        self.assertIsNone(machine.take(Letter(0, 1, [20, 0], events)))
        self.assertEqual(machine.heard.counts, (20, 0))
        self.assertEqual(len(Machine(0, 2, disk_of(events, 128)).take(machine.hello(0)) or ()), 0)
        reply = machine.take(Letter(0, 1, [0, 0], []))
        self.assertEqual([event.number for event in reply.events], list(range(1, 21)))

    def test_a_letter_by_which_nothing_is_heard_is_begun(self):
        machine = Machine(1, 2, Disk(8))
        machine.begin_taking(Letter(0, 1, [0, 0], []))
        self.assertEqual((machine.is_begun, machine.disk.held), (True, ()))
        self.assertEqual(raised(machine.begin, ("make", A)), ("Misfit", "begun"))
        self.assertIsNone(machine.finish())
        machine.begin_taking(Letter(0, 1, [0, 0], []))
        machine.cut([])
        self.assertEqual((raised(machine.finish), machine.is_begun), (("Off",), False))

    def test_misfits(self):
        machine = Machine(1, 2, Disk(8))
        for call in (machine.take, machine.begin_taking):
            for value in ODD_VALUES:
                self.assertEqual(raised(call, value), ("BadLetter", "letter"))
            self.assertEqual(raised(call, Letter(1, 2, [0, 0, 0], [])), ("Misfit", "machines"))
            self.assertEqual(raised(call, Letter(1, 0, [0, 0], [])), ("Misfit", "to"))
        self.assertFalse(machine.is_begun)

    def test_hello(self):
        machine = Machine(1, 3, disk_of([made(0, 1, 3)]))
        self.assertTrue(machine.hello(to=2) == Letter(1, 2, (1, 0, 0), []))
        for value in NO_MACHINES + (3, -1):
            self.assertEqual(raised(machine.hello, value), ("NoMachine", value))
        self.assertEqual(raised(machine.hello, 1), ("Misfit", "to"))


class PressTest(unittest.TestCase):
    def test_the_rows_of_all_events_in_order(self):
        dice = random.Random(3)
        for _ in range(20):
            machine = Machine(0, 2, Disk(64))
            other = Machine(1, 2, Disk(64))
            for _ in range(8):
                one = dice.choice((machine, other))
                raised(one.do, dice.choice((("make", A), ("write", B, dice.choice("12")), ("drop", A), ("drop", B))))
                letter = machine.hello(1) if dice.random() < 0.4 else None
                while letter is not None:
                    letter = (machine, other)[letter.to].take(letter)
            before, old = machine.heard, meaning(machine.disk.image)
            wanted = tuple(row_of(event) for event in before.events)
            if dice.random() < 0.5:
                self.assertIsNone(machine.press())
            else:
                self.assertIsNone(machine.begin_pressing())
                self.assertEqual((machine.is_begun, meaning(machine.disk.image) == old), (True, True))
                self.assertEqual(raised(machine.finish), ("Misfit", "turn"))
                self.assertIsNone(machine.turn())
                self.assertEqual((len(machine.disk.held), raised(machine.turn)), (1, ("Misfit", "turn")))
                self.assertTrue(machine.heard == before)
                self.assertIsNone(machine.finish())
            self.assertTrue(machine.heard == before)
            told = meaning(machine.disk.image)
            self.assertEqual((told.rows, told.epoch, told.half), (wanted, 1, 1))
            self.assertEqual((machine.is_begun, machine.disk.held), (False, ()))

    def test_again_and_again(self):
        machine = Machine(0, 1, Disk(16))
        for epoch in range(1, 9):
            if epoch % 2:
                machine.do(("make", ("p" + str(epoch),)))
            machine.press()
            told = meaning(machine.disk.image)
            self.assertEqual((told.epoch, told.half, len(told.rows)), (epoch, epoch % 2, (epoch + 1) // 2))
        machine.cut([])
        machine.up()
        self.assertEqual((machine.heard.counts, len(machine.done)), ((4,), 4))

    def test_nothing_to_press(self):
        machine = Machine(0, 1, Disk(8))
        machine.press()
        self.assertEqual((meaning(machine.disk.image).epoch, machine.heard.counts, machine.do(("make", A))), (1, (0,), (0, 1)))

    def test_what_is_not_turned(self):
        machine = Machine(0, 1, Disk(16))
        self.assertEqual(raised(machine.turn), ("Misfit", "turn"))
        machine.begin(("make", A))
        self.assertEqual(raised(machine.turn), ("Misfit", "turn"))
        machine.finish()
        machine.begin_pressing()
        machine.cut([0])
        machine.up()
        self.assertEqual((raised(machine.turn), raised(machine.finish)), (("Misfit", "turn"), ("Nothing",)))
        machine.press()
        self.assertEqual(raised(machine.turn), ("Misfit", "turn"))

    def test_the_last_epoch(self):
        for epoch in (65534, 65535):
            machine = Machine(0, 1, disk_of_rows([row_of(made(0, 1, 1))], 16, 3, head_block(epoch, 0, 3)))
            before = state(machine)
            if epoch == 65534:
                machine.press()
                self.assertEqual(meaning(machine.disk.image).epoch, 65535)
                before = state(machine)
            self.assertEqual(raised(machine.press), ("Full",))
            self.assertEqual(state(machine), before)
            machine.begin_pressing()
            copied = state(machine)
            self.assertEqual(raised(machine.turn), ("Full",))
            self.assertEqual((raised(machine.finish), state(machine)), (("Misfit", "turn"), copied))
            self.assertEqual(raised(machine.press), ("Misfit", "begun"))
            machine.cut([])
            self.assertEqual(raised(machine.press), ("Off",))
            machine.up()
            self.assertEqual(machine.do(("make", B)), (0, 2))

    def test_the_last_stamp(self):
        row = row_of(made(0, 1, 1))
        for stamp in (65534, 65535):
            machine = Machine(0, 1, disk_of_rows([row], 16, stamp))
            before = state(machine)
            wanted = None if stamp == 65534 else ("Full",)
            self.assertEqual(raised(machine.begin, ("make", B)), wanted)
            if wanted:
                self.assertEqual(state(machine), before)
                self.assertEqual(raised(machine.settle, []), ("Nothing",))
                # A letter's events have no room either; but the copy in the other half has.
                lone = Machine(1, 2, disk_of([made(0, 1, 2)], 16, 65535))
                self.assertIsNone(lone.take(Letter(0, 1, [2, 0], chain(0, 2, 2))))
                self.assertEqual(lone.heard.counts, (1, 0))
                machine.press()
                self.assertEqual((meaning(machine.disk.image).first, machine.do(("make", B))), (1, (0, 2)))
            else:
                self.assertEqual(machine.disk.held[0][1][0], 65535)
        # The stamp of the copy would be 65536.
        image = list(disk_of_rows([row], 16).image)
        image[9] = block(65535)
        machine = Machine(0, 1, Disk.of(image))
        before = state(machine)
        for call in (machine.press, machine.begin_pressing):
            self.assertEqual(raised(call), ("Full",))
            self.assertEqual(state(machine), before)
        image[9] = block(65534)
        machine = Machine(0, 1, Disk.of(image))
        machine.press()
        self.assertEqual(meaning(machine.disk.image).first, 65535)
        self.assertEqual(machine.do(("make", B)), (0, 2))
        machine.cut([])
        machine.up()
        self.assertEqual(raised(machine.do, ("make", ("c",))), ("Full",))


class OrderTest(unittest.TestCase):
    def calls(self, machine, right):
        """All methods that a machine refuses when it is off, with something right or wrong to be passed."""
        letter = Letter(1, 0, [0, 0], []) if right else Letter(0, 1, [0, 0, 0], [])
        return [
            (machine.begin, ("make", A)), (machine.do, ("make", A)), (machine.begin_taking, letter), (machine.take, letter),
            (machine.begin_settling, None), (machine.settle, []), (machine.begin_pressing,), (machine.press,),
        ]

    def test_off(self):
        machine = Machine(0, 2, Disk(16))
        machine.begin(("make", A))
        machine.cut([])
        before = state(machine)
        for right in (True, False):
            for call, *passed in self.calls(machine, right) + [
                (machine.turn,), (machine.finish,), (machine.hello, 1), (machine.hello, 0), (machine.cut, []),
            ]:
                self.assertEqual(raised(call, *passed), ("Off",))
        # What tells of a parameter by itself comes ahead.
        for call, passed, error in (
            (machine.begin, None, ("BadDeed", "deed")), (machine.do, ("drop",), ("BadDeed", "deed")),
            (machine.take, None, ("BadLetter", "letter")), (machine.begin_taking, 5, ("BadLetter", "letter")),
            (machine.cut, [0], ("BadLot", "landed")), (machine.cut, None, ("BadLot", "landed")),
            (machine.hello, 2, ("NoMachine", 2)), (machine.hello, None, ("NoMachine", None)),
        ):
            self.assertEqual(raised(call, passed), error)
        with self.assertRaises(Off):
            machine.heard
        self.assertEqual(state(machine), before)

    def test_begun(self):
        for begin in ("deed", "letter", "copy", "turn"):
            machine = Machine(0, 2, Disk(16))
            if begin == "deed":
                machine.begin(("make", B))
            elif begin == "letter":
                machine.begin_taking(Letter(1, 0, [0, 0], []))
            else:
                machine.begin_pressing()
                if begin == "turn":
                    machine.turn()
            before = state(machine)
            for right in (True, False):
                for call, *passed in self.calls(machine, right):
                    self.assertEqual(raised(call, *passed), ("Misfit", "begun"))
            self.assertEqual(raised(machine.begin, None), ("BadDeed", "deed"))
            self.assertEqual(raised(machine.take, None), ("BadLetter", "letter"))
            self.assertEqual((raised(machine.up), raised(machine.hello, 0)), (("On",), ("Misfit", "to")))
            self.assertEqual(machine.hello(1).counts, (0, 0))
            self.assertEqual(state(machine), before)

    def test_nothing_is_begun(self):
        machine = Machine(0, 2, Disk(16))
        self.assertEqual((raised(machine.finish), raised(machine.turn)), (("Nothing",), ("Misfit", "turn")))
        machine.do(("make", A))
        self.assertEqual(raised(machine.finish), ("Nothing",))


class TwinTest(unittest.TestCase):
    def test_a_twin_goes_on_alone(self):
        dice = random.Random(4)
        for steps in itertools.product(("deed", "copy", "turn", "finish", "cut"), repeat=4):
            machine = Machine(0, 1, Disk(64))
            for step in steps:
                other = machine.twin()
                self.assertEqual(state(other), state(machine))
                before = state(machine)
                landed = [at for at in range(len(machine.disk.held)) if dice.random() < 0.5]
                self.assertEqual(self.did(other, step, landed), state(other))
                self.assertEqual(state(machine), before)
                self.assertEqual(self.did(machine, step, landed), state(other))

    def did(self, machine, step, landed):
        """What can be seen of a machine behind a step, whatever it raised."""
        if step == "deed":
            raised(machine.begin, ("make", ("p" + str(len(machine.done)),)))
        elif step == "cut":
            raised(machine.cut, landed)
            raised(machine.up)
        else:
            raised({"copy": machine.begin_pressing, "turn": machine.turn, "finish": machine.finish}[step])
        return state(machine)


class TimeTest(unittest.TestCase):
    def test_in_a_short_time(self):
        begin = time.monotonic()
        machine = Machine(0, 1, Disk(512))
        for number in range(127):
            machine.do(("write", ("p" + str(number),), ""))
        machine.press()
        machine.cut([])
        machine.up()
        self.assertEqual(machine.heard.counts, (127,))
        # A row with a name of two signs has just one block.
        self.assertEqual(meaning(machine.disk.image).behind, 127 + sum(len(str(at)) > 1 for at in range(127)))
        self.assertLess(time.monotonic() - begin, 20)


if __name__ == "__main__":
    unittest.main()
