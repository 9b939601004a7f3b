"""What is heard."""

import itertools
import random
import time
import unittest

from meettrees.events import Event
from meettrees.heard import Heard, change, changes, is_past
from histories import are_closed, in_order, in_past, some_history
from tools import ODD_VALUES, listed, raised

SOME = [(("a",), ("folder",))]
NO_KEYS = ODD_VALUES + (
    (), (0,), (0, 0), (0, -1), (-1, 1), (8, 1), (True, 1), (0, True), (0, 1, 0), ("0", 1), (0.0, 1), (None, None), "01",
    {0, 1}, range(2), ((0,), 1), (0, 10 ** 999), (10 ** 999, 1), [[0, 1]],
)


def histories(seed, times=30):
    """Some histories by chance, with how many machines they have."""
    dice = random.Random(seed)
    for _ in range(times):
        machines = dice.randint(1, 4)
        yield machines, some_history(dice, machines, dice.randint(0, 14)), dice


def counts_of(machines, events):
    """How many events each machine made."""
    return tuple(sum(event.machine == machine for event in events) for machine in range(machines))


class HeardTest(unittest.TestCase):
    def test_attributes_in_any_order(self):
        for machines, events, dice in histories(1):
            wanted = tuple(in_order(events))
            for _ in range(4):
                dice.shuffle(events)
                heard = Heard(machines, dice.choice((list, tuple))(events))
                self.assertEqual((heard.machines, heard.counts), (machines, counts_of(machines, events)))
                self.assertIsInstance(heard.events, tuple)
                self.assertEqual([event.id for event in heard.events], [event.id for event in wanted])
                self.assertTrue(heard == Heard(machines=machines, events=wanted))

    def test_order_tells_each_behind_its_past(self):
        for machines, events, _ in histories(2):
            told = Heard(machines, events).events
            for one, other in itertools.combinations(told, 2):
                self.assertFalse(in_past(other, one))
                self.assertTrue(sum(one.past) < sum(other.past) or one.machine < other.machine)

    def test_nothing(self):
        for machines in range(1, 9):
            heard = Heard(machines, [])
            self.assertEqual((heard.machines, heard.counts, heard.events), (machines, (0,) * machines, ()))
            self.assertEqual((changes(heard), heard.lacking([0] * machines)), ((), ()))

    def test_equal(self):
        one, other = Event(0, 1, [0, 0], SOME), Event(1, 1, [0, 0], SOME)
        self.assertTrue(Heard(2, [one, other]) == Heard(2, (other, Event(0, 1, [0, 0], SOME))))
        self.assertFalse(Heard(2, [one]) == Heard(2, [other]))
        self.assertFalse(Heard(2, []) == Heard(3, []))
        self.assertFalse(Heard(2, [one]) == Heard(2, [Event(0, 1, [0, 0], [(("a",), ("none",))])]))
        for value in (None, (), 2, (2, ()), object()):
            self.assertIs(Heard(2, []) == value, False)

    def test_what_is_passed_stays_and_is_copied(self):
        for machines, events, _ in histories(3, 5):
            passed = list(events)
            heard = Heard(machines, passed)
            self.assertTrue(len(passed) == len(events) and all(one is other for one, other in zip(passed, events)))
            passed.clear()
            self.assertEqual(len(heard.events), len(events))


class ClosedTest(unittest.TestCase):
    def test_machines(self):
        for machines in range(-1, 11):
            self.assertEqual(raised(Heard, machines, []), None if 1 <= machines <= 8 else ("BadHeard", "machines"))
        for machines in (None, True, False, "2", 2.0, [2], 10 ** 999):
            self.assertEqual(raised(Heard, machines, None), ("BadHeard", "machines"))

    def test_no_list_of_events(self):
        event = Event(0, 1, [0, 0], SOME)
        for value in ODD_VALUES + (event, "ab"):
            if value not in ((), []):
                self.assertEqual(raised(Heard, 2, value), ("BadHeard", "events"))
            if value is not event:
                self.assertEqual(raised(Heard, 2, [event, value]), ("BadHeard", "events"))

    def test_some_of_a_history(self):
        told = set()
        for machines, events, dice in histories(4, 60):
            for _ in range(15):
                some = dice.sample(events, dice.randint(0, len(events)))
                if dice.random() < 0.5:
                    low = dice.randint(0, 4)
                    some = [event for event in events if sum(event.past) <= low or event.machine == 0]
                wanted = are_closed(machines, some)
                told.add(wanted)
                self.assertEqual(raised(Heard, machines, some), None if wanted else ("BadHeard", "events"))
        self.assertEqual(told, {True, False})

    def test_any_events_of_two_machines(self):
        events = [
            Event(machine, number, (number - 1, told) if machine == 0 else (told, number - 1), SOME)
            for machine in (0, 1) for number in (1, 2) for told in (0, 1, 2)
        ]
        for many in range(5):
            for some in itertools.combinations(events, many):
                wanted = None if are_closed(2, some) else ("BadHeard", "events")
                self.assertEqual(raised(Heard, 2, some), wanted)

    def test_any_events_of_three_machines(self):
        dice = random.Random(5)
        told = set()
        for _ in range(4000):
            counts = [dice.randint(0, 2) for _ in range(3)]
            some = []
            for machine in range(3):
                for number in range(1, counts[machine] + 1):
                    past = [dice.choice((0, 0, dice.randint(0, count))) for count in counts]
                    past[machine] = number - 1
                    some.append(Event(machine, number, past, SOME))
            wanted = are_closed(3, some)
            told.add((wanted, len(some)))
            self.assertEqual(raised(Heard, 3, some), None if wanted else ("BadHeard", "events"))
        self.assertTrue({(True, 5), (False, 5), (True, 6), (False, 6)} <= told)

    def test_twice_lacking_and_of_other_machines(self):
        one, two = Event(0, 1, [0, 0], SOME), Event(0, 2, [1, 0], SOME)
        unlike = Event(0, 1, [0, 0], [(("b",), ("none",))])
        for events in ([one, one], [one, unlike], [two], [one, two, two], [Event(0, 1, [0, 1], SOME)],
                       [Event(0, 1, [0], SOME)], [Event(0, 1, [0, 0, 0], SOME)], [one, Event(0, 2, [1, 0, 0], SOME)],
                       [Event(1, 1, [1, 0], SOME)], [one, Event(1, 1, [2, 0], SOME)],
                       [Event(0, 1, [0, 1], SOME), Event(1, 1, [1, 0], SOME)]):
            self.assertEqual(raised(Heard, 2, events), ("BadHeard", "events"))
        self.assertIsNone(raised(Heard, 2, [two, one, Event(1, 1, [1, 0], SOME)]))

    def test_own_past_grows(self):
        other = Event(1, 1, [0, 0], SOME)
        one, two = Event(0, 1, [0, 1], SOME), Event(0, 2, [1, 0], SOME)
        self.assertEqual(raised(Heard, 2, [other, one, two]), ("BadHeard", "events"))

    def test_at_eight_machines_and_sixty_thousand(self):
        events = [Event(machine, 1, [0] * 8, SOME) for machine in range(8)]
        events.append(Event(7, 2, [1] * 8, SOME))
        self.assertEqual(Heard(8, events).counts, (1,) * 7 + (2,))
        self.assertEqual(raised(Heard, 7, events), ("BadHeard", "events"))
        high = Event(0, 60000, [59999, 60000], SOME)
        self.assertEqual(raised(Heard, 2, [high]), ("BadHeard", "events"))
        self.assertEqual(raised(Heard(2, []).with_event, high), ("Misfit", "next"))


class MethodTest(unittest.TestCase):
    def test_has_and_event(self):
        for machines, events, _ in histories(6):
            heard = Heard(machines, events)
            by_id = {event.id: event for event in events}
            for key in itertools.product(range(-1, machines + 1), range(-1, 12)):
                for passed in (key, list(key)):
                    self.assertIs(heard.has(passed), key in by_id)
                    if key in by_id:
                        self.assertTrue(heard.event(key=passed) == by_id[key])
                    else:
                        self.assertEqual(raised(heard.event, passed), ("NoEvent", passed))

    def test_no_ids(self):
        heard = Heard(2, [Event(0, 1, [0, 0], SOME), Event(1, 1, [0, 0], SOME)])
        for value in NO_KEYS:
            self.assertIs(heard.has(value), False)
            for call in (heard.event, lambda key: is_past(heard, key, None), lambda key: is_past(heard, (0, 1), key)):
                self.assertEqual(raised(call, value)[0], "NoEvent")
                self.assertIs(raised(call, value)[1], value)

    def test_with_event(self):
        for machines, events, dice in histories(7):
            told = in_order(events)
            heard = Heard(machines, [])
            for index, event in enumerate(told):
                before = heard.events
                for other in told:
                    wanted = None if are_closed(machines, told[:index] + [other]) else ("Misfit", "next")
                    self.assertEqual(raised(heard.with_event, other), wanted)
                later = heard.with_event(event=event)
                self.assertTrue(heard.events is before and later == Heard(machines, told[:index + 1]))
                self.assertEqual(later.counts, counts_of(machines, told[:index + 1]))
                self.assertTrue(later.has(event.id) and not heard.has(event.id))
                heard = later

    def test_with_an_event_that_is_none(self):
        heard = Heard(2, [Event(0, 1, [0, 0], SOME)])
        for value in ODD_VALUES + ((0, 2),):
            self.assertEqual(raised(heard.with_event, value), ("BadEvent", "event"))
        for event in (Event(0, 2, [1], SOME), Event(0, 2, [1, 0, 0], SOME), Event(2, 1, [0, 0, 0], SOME),
                      Event(0, 1, [0, 0], SOME), Event(0, 3, [2, 0], SOME), Event(0, 2, [1, 1], SOME),
                      Event(1, 1, [2, 0], SOME), Event(1, 2, [1, 1], SOME), Event(7, 1, [0] * 8, SOME)):
            self.assertEqual(raised(heard.with_event, event), ("Misfit", "next"))

    def test_joined(self):
        for machines, events, dice in histories(8):
            told = in_order(events)
            some = []
            for _ in range(2):
                heard = Heard(machines, [])
                for event in told:
                    if dice.random() < 0.8 and are_closed(machines, list(heard.events) + [event]):
                        heard = heard.with_event(event)
                some.append(heard)
            both = some[0].joined(other=some[1])
            self.assertEqual(both.counts, tuple(map(max, some[0].counts, some[1].counts)))
            self.assertTrue(both == some[1].joined(some[0]))
            self.assertTrue(both == Heard(machines, [event for event in told if event.number <= both.counts[event.machine]]))
            self.assertTrue(both.joined(some[0]) == both)

    def test_joined_with_what_does_not_fit(self):
        heard = Heard(2, [Event(0, 1, [0, 0], SOME)])
        for value in ODD_VALUES + (heard.events,):
            self.assertEqual(raised(heard.joined, value), ("BadHeard", "other"))
        unlike = Event(0, 1, [0, 0], [(("b",), ("none",))])
        self.assertEqual(raised(heard.joined, Heard(3, [])), ("Misfit", "machines"))
        self.assertEqual(raised(heard.joined, Heard(1, [Event(0, 1, [0], SOME)])), ("Misfit", "machines"))
        self.assertEqual(raised(heard.joined, Heard(2, [unlike])), ("Misfit", "unlike"))
        self.assertEqual(raised(Heard(2, [unlike]).joined, heard), ("Misfit", "unlike"))
        self.assertEqual(heard.joined(Heard(2, [])).counts, (1, 0))

    def test_lacking(self):
        for machines, events, dice in histories(9):
            heard = Heard(machines, events)
            for _ in range(5):
                counts = [dice.choice((0, 1, 2, 5, 60000)) for _ in range(machines)]
                wanted = [event.id for event in in_order(events) if event.number > counts[event.machine]]
                for passed in (counts, tuple(counts)):
                    told = heard.lacking(counts=passed)
                    self.assertIsInstance(told, tuple)
                    self.assertEqual([event.id for event in told], wanted)

    def test_what_another_lacks_can_be_heard_event_by_event(self):
        for machines, events, dice in histories(10):
            heard = Heard(machines, events)
            less = Heard(machines, [])
            for event in in_order(events)[:dice.randint(0, len(events))]:
                less = less.with_event(event)
            for event in heard.lacking(less.counts):
                less = less.with_event(event)
            self.assertTrue(less == heard)

    def test_no_counts(self):
        heard = Heard(2, [Event(0, 1, [0, 0], SOME)])
        for counts in ODD_VALUES + ((), [0], [0] * 3, [0, -1], [60001, 0], [True, 0], [0, None], ["0", 0], {0: 0, 1: 1}):
            self.assertEqual(raised(heard.lacking, counts), ("BadNumber", "counts"))
        self.assertEqual(heard.lacking([60000, 60000]), ())


class FunctionTest(unittest.TestCase):
    def test_is_past(self):
        for machines, events, _ in histories(11):
            heard = Heard(machines, events)
            for one in events:
                for other in events:
                    self.assertIs(is_past(heard, one.id, other.id), in_past(one, other))
                    self.assertIs(is_past(heard=heard, one=list(one.id), other=list(other.id)), in_past(one, other))

    def test_changes(self):
        for machines, events, _ in histories(12):
            heard = Heard(machines, events)
            wanted = {(*event.id, index): told for event in events for index, told in enumerate(event.changes)}
            self.assertEqual(changes(heard), tuple(sorted(wanted)))
            for key, told in wanted.items():
                self.assertEqual(change(heard, key), told)
                self.assertEqual(change(heard=heard, key=listed(key)), told)
                for other in (key[:2] + (99,), (7,) + key[1:], (key[0], 99, 0), key + (0,), key[:2], key[:2] + (-1,)):
                    for passed in (other, list(other)):
                        self.assertEqual(raised(change, heard, passed), ("NoChange", passed))

    def test_no_changes(self):
        heard = Heard(2, [Event(0, 1, [0, 0], SOME), Event(1, 1, [0, 0], SOME)])
        odd_keys = [(True, 1, 0), (0, True, 0), (0, 1, False), (0, 1, 1), (0, 1, "0"), (0, 1, 0.0), (0, 0, 0)]
        for value in [value for value in NO_KEYS if value != (0, 1, 0)] + odd_keys:
            self.assertEqual(raised(change, heard, value)[0], "NoChange")
            self.assertIs(raised(change, heard, value)[1], value)

    def test_no_heard(self):
        for value in ODD_VALUES:
            self.assertEqual(raised(is_past, value, None, None), ("BadHeard", "heard"))
            self.assertEqual(raised(changes, value), ("BadHeard", "heard"))
            self.assertEqual(raised(change, value, None), ("BadHeard", "heard"))

    def test_errors_in_their_order(self):
        heard = Heard(2, [Event(0, 1, [0, 0], SOME)])
        self.assertEqual(raised(is_past, heard, (0, 2), (0, 3)), ("NoEvent", (0, 2)))
        self.assertEqual(raised(is_past, heard, [0, 1], [0, 3]), ("NoEvent", [0, 3]))


class TimeTest(unittest.TestCase):
    def test_four_hundred_events(self):
        dice = random.Random(13)
        events = some_history(dice, 8, 400, most=1)
        begin = time.monotonic()
        heard = Heard(8, events)
        told = Heard(8, [])
        for event in heard.events:
            told = told.with_event(event)
        self.assertTrue(told == heard and told.joined(heard) == heard)
        self.assertEqual(len(changes(heard)), 400)
        self.assertLess(time.monotonic() - begin, 10)


if __name__ == "__main__":
    unittest.main()
