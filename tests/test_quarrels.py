"""Quarrels: which changes are overruled, which are live, and which of these quarrel."""

import random
import time
import unittest

from meettrees.events import Event
from meettrees.heard import Heard, changes
from meettrees.quarrels import live, overruler, parts, quarrels
from histories import in_order, in_past, live_told, overrulers, parts_told, quarrels_told, some_history
from tools import ODD_VALUES, raised

NONE, FOLDER, ONE, TWO = ("none",), ("folder",), ("file", "1"), ("file", "2")
A, X, Y = ("a",), ("a", "x"), ("a", "y")


def histories(seed, times=60, most=16):
    """Some histories by chance, with how many machines they have."""
    dice = random.Random(seed)
    for _ in range(times):
        machines = dice.randint(1, 4)
        yield machines, some_history(dice, machines, dice.randint(0, most), meet=dice.choice((0.1, 0.3, 0.6))), dice


def apart(*changes_of_each):
    """What is heard of machines each of which made an event with some changes, alone."""
    many = len(changes_of_each)
    return Heard(many, [Event(at, 1, [0] * many, some) for at, some in enumerate(changes_of_each)])


class QuarrelsTest(unittest.TestCase):
    def test_histories_by_chance(self):
        found = [0, 0]
        for machines, events, dice in histories(1):
            dice.shuffle(events)
            heard = Heard(machines, events)
            standing = live_told(events)
            for key in changes(heard):
                wanted = overrulers(events, key)
                for passed in (key, list(key)):
                    self.assertEqual(overruler(heard, passed), wanted[0] if wanted else None)
            self.assertEqual(live(heard), tuple(standing))
            self.assertEqual(quarrels(heard), quarrels_told(standing))
            self.assertEqual(parts(heard), parts_told(standing))
            found = [found[0] + len(quarrels(heard)), max(found[1], max(map(len, parts(heard)), default=0))]
        self.assertTrue(found[0] > 50 and found[1] > 4, found)

    def test_what_quarrels_was_made_apart(self):
        for machines, events, _ in histories(2):
            heard = Heard(machines, events)
            for one, other in quarrels(heard):
                mine, its = heard.event(one[:2]), heard.event(other[:2])
                self.assertTrue(one < other and mine.id != its.id)
                self.assertFalse(in_past(mine, its) or in_past(its, mine))

    def test_the_order_of_hearing_makes_no_difference(self):
        for machines, events, dice in histories(3, 20):
            told = in_order(events)
            heard = Heard(machines, [])
            lying = list(told)
            while lying:
                event = dice.choice([event for event in lying if raised(heard.with_event, event) is None])
                lying.remove(event)
                heard = heard.with_event(event)
            for call in (live, quarrels, parts):
                self.assertEqual(call(heard), call(Heard(machines, events)))

    def test_an_overruled_one_overrules(self):
        first, second, third = [Event(0, number, [number - 1], [(A, (("file", str(number))))]) for number in (1, 2, 3)]
        heard = Heard(1, [first, second, third])
        self.assertEqual([overruler(heard, (0, number, 0)) for number in (1, 2, 3)], [(0, 2, 0), (0, 3, 0), None])

    def test_one_path_overrules_also_with_one_value(self):
        for value in (NONE, FOLDER, ONE):
            heard = Heard(1, [Event(0, 1, [0], [(A, value)]), Event(0, 2, [1], [(A, value)])])
            self.assertEqual((overruler(heard, (0, 1, 0)), live(heard)), ((0, 2, 0), ((0, 2, 0),)))

    def test_above_and_below(self):
        for upper in (NONE, FOLDER, ONE):
            for lower in (NONE, FOLDER, ONE):
                do = upper != FOLDER and lower != NONE
                for one, other in (((A, upper), (X, lower)), ((X, lower), (A, upper))):
                    heard = Heard(2, [Event(0, 1, [0, 0], [one]), Event(1, 1, [1, 0], [other])])
                    self.assertEqual(overruler(heard, (0, 1, 0)), (1, 1, 0) if do else None)
                    self.assertEqual(quarrels(heard), ())
                    met = apart([one], [other])
                    self.assertEqual(live(met), ((0, 1, 0), (1, 1, 0)))
                    self.assertEqual(quarrels(met), (((0, 1, 0), (1, 1, 0)),) if do else ())
                    self.assertEqual(parts(met), (((0, 1, 0), (1, 1, 0)),) if do else ())

    def test_the_deepest_paths(self):
        deep = ("a" * 12,) * 6
        met = apart([(deep[:1], ONE)], [(deep, TWO)], [(deep[:5], NONE)])
        self.assertEqual(quarrels(met), (((0, 1, 0), (1, 1, 0)), ((1, 1, 0), (2, 1, 0))))
        self.assertEqual(parts(met), (((0, 1, 0), (1, 1, 0), (2, 1, 0)),))

    def test_eight_machines(self):
        met = apart(*[[(A, ("file", str(at // 2)))] for at in range(8)])
        self.assertEqual(len(quarrels(met)), 28 - 4)
        self.assertEqual(parts(met), (tuple((at, 1, 0) for at in range(8)),))

    def test_several_parts_ascend(self):
        met = apart([(("b",), ONE), (("c",), ONE), (("d",), ONE)], [(("b",), TWO), (("d",), ONE)], [(("c",), TWO)])
        self.assertEqual(parts(met), (((0, 1, 0), (1, 1, 0)), ((0, 1, 1), (2, 1, 0))))

    def test_indexes_of_one_event(self):
        many = [((chr(97 + at),), ONE) for at in range(14)]
        met = apart(many, [(path, TWO) for path, _ in many])
        self.assertEqual(quarrels(met), tuple(((0, 1, at), (1, 1, at)) for at in range(14)))
        self.assertEqual(overruler(met, (0, 1, 13)), None)


class WrongTest(unittest.TestCase):
    def test_no_heard(self):
        for value in ODD_VALUES + ((), []):
            for call in (live, quarrels, parts):
                self.assertEqual(raised(call, value), ("BadHeard", "heard"))
            self.assertEqual(raised(overruler, value, None), ("BadHeard", "heard"))

    def test_no_change(self):
        heard = apart([(A, ONE)], [(A, TWO)])
        for value in ODD_VALUES + ((), (0, 1), (0, 1, 1), (0, 2, 0), (2, 1, 0), (0, 1, 0, 0), (0, 1, -1), (True, 1, 0),
                                   [0, 1, 1], (0, True, 0), (0, 1, False), ((0, 1), 0), "010", (0, 0, 0), (-1, 1, 0)):
            self.assertEqual(raised(overruler, heard, value)[0], "NoChange")
            self.assertIs(raised(overruler, heard, value)[1], value)
        self.assertIsNone(overruler(heard=heard, key=[1, 1, 0]))

    def test_nothing_heard(self):
        heard = Heard(3, [])
        self.assertEqual((live(heard), quarrels(heard), parts(heard)), ((), (), ()))


class TimeTest(unittest.TestCase):
    def test_four_hundred_changes(self):
        chain = Heard(1, [Event(0, number, [number - 1], [(A, ("file", str(number)))]) for number in range(1, 401)])
        # One machine writes below /a, the other one, alone, makes /a a file again and again.
        both = Heard(2, [
            event for number in range(1, 201)
            for event in (Event(0, number, [number - 1, 0], [(("a", "x" + str(number)), ONE)]),
                          Event(1, number, [0, number - 1], [(A, ("file", str(number)))]))
        ])
        wide = apart(*[[(("a", f"b{at}{index}"), ONE) for index in range(14)] for at in range(8)])
        dice = random.Random(4)
        any_ones = Heard(8, some_history(dice, 8, 300, most=1, meet=0.2))
        begin = time.monotonic()
        self.assertEqual((live(chain), quarrels(chain)), (((0, 400, 0),), ()))
        self.assertEqual((len(live(both)), len(quarrels(both)), len(parts(both))), (201, 200, 1))
        self.assertEqual((len(live(wide)), parts(wide)), (112, ()))
        for heard in (chain, both, wide, any_ones):
            for call in (live, quarrels, parts):
                call(heard)
            for key in changes(heard)[:50]:
                overruler(heard, key)
        self.assertLess(time.monotonic() - begin, 10)


if __name__ == "__main__":
    unittest.main()
