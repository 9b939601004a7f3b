"""Events: what one machine changed at once."""

import unittest

from meettrees.events import Event
from tools import ODD_PATH_VALUES, ODD_PATHS, ODD_VALUES, listed, raised

NONE, FOLDER, HI = ("none",), ("folder",), ("file", "hi")
NO_INTEGERS = (None, True, False, "1", 1.0, [1], (1,), object())
SOME = [(("a",), NONE)]


def many_changes(many):
    """So many changes that do not quarrel, the last ones first."""
    return [(("a" + str(number),), HI) for number in reversed(range(100, 100 + many))]


class EventTest(unittest.TestCase):
    def test_attributes(self):
        event = Event(1, 4, [2, 3], [[["b"], ["file", "hi"]], (["a", "x"], NONE), (("a",), FOLDER)])
        self.assertEqual((event.machine, event.number, event.past, event.id), (1, 4, (2, 3), (1, 4)))
        self.assertEqual(event.changes, ((("a",), FOLDER), (("a", "x"), NONE), (("b",), HI)))
        self.assertEqual(vars(Event(machine=0, number=1, past=(0,), changes=tuple(SOME)))["changes"], tuple(SOME))

    def test_changes_ascend_as_tuples(self):
        paths = [("b",), ("a0",), ("a", "z"), ("a", "y", "x"), ("a",), ("0",)]
        event = Event(0, 1, [0], [(path, FOLDER) for path in paths])
        self.assertEqual([path for path, _ in event.changes],
                         [("0",), ("a",), ("a", "y", "x"), ("a", "z"), ("a0",), ("b",)])

    def test_equal(self):
        made = Event(0, 2, [1, 5], [(("a",), NONE), (("b",), HI)])
        self.assertTrue(made == Event(0, 2, (1, 5), listed([(("b",), HI), (("a",), NONE)])))
        for other in (Event(0, 2, [1, 4], made.changes), Event(0, 2, [1, 5], made.changes[:1]),
                      Event(0, 2, [1, 5, 0], made.changes), Event(0, 3, [2, 5], made.changes),
                      Event(1, 6, [1, 5], made.changes), Event(0, 2, [1, 5], [(("a",), NONE), (("b",), FOLDER)])):
            self.assertFalse(made == other)
            self.assertTrue(made != other)
        self.assertFalse(Event(0, 2, [1, 1], SOME) == Event(1, 2, [1, 1], SOME))
        for other in (None, 1, (0, 2), "event", vars(made), object()):
            self.assertIs(made == other, False)

    def test_what_is_passed_stays_and_is_copied(self):
        past, changes = [1, 5], [[["b"], ["file", "hi"]], [["a"], ["none"]]]
        event = Event(0, 2, past, changes)
        self.assertEqual((past, changes), ([1, 5], [[["b"], ["file", "hi"]], [["a"], ["none"]]]))
        past[1] = 7
        changes[0][0][0] = "c"
        del changes[1]
        self.assertEqual((event.past, event.changes), ((1, 5), ((("a",), NONE), (("b",), HI))))


class BoundTest(unittest.TestCase):
    def test_machines(self):
        for machine in range(-2, 11):
            wanted = None if 0 <= machine <= 7 else ("BadEvent", "machine")
            self.assertEqual(raised(Event, machine, 1, [0] * 8, SOME), wanted)
        for machine in NO_INTEGERS + (10 ** 999,):
            self.assertEqual(raised(Event, machine, None, None, None), ("BadEvent", "machine"))

    def test_numbers(self):
        for number in (1, 2, 59999, 60000):
            self.assertIsNone(raised(Event, 0, number, [number - 1], SOME))
        for number in NO_INTEGERS + (0, -1, 60001, 10 ** 999):
            self.assertEqual(raised(Event, 0, number, None, None), ("BadEvent", "number"))

    def test_pasts(self):
        self.assertEqual(Event(7, 60000, [60000] * 7 + [59999], SOME).past, (60000,) * 7 + (59999,))
        for past in ([0, 0], (0, 0, 0), [0, 0, 60000], [0] * 8, [60000, 0]):
            self.assertIsNone(raised(Event, 1, 1, past, SOME))
            self.assertIsNone(raised(Event, 1, 1, tuple(past), SOME))
        for past in ODD_VALUES + ((), [], [0], [0] * 9, [0, 1], [1, 1], [60001, 0], [-1, 0], [True, 0], [0, False],
                                  ["0", 0], [0.0, 0], [0, 0, None], [0, 0, [0]], "00", {0: 0, 1: 0}, range(2)):
            self.assertEqual(raised(Event, 1, 1, past, None), ("BadEvent", "past"), past)
        for number in range(1, 5):
            for own in range(5):
                wanted = None if own == number - 1 else ("BadEvent", "past")
                self.assertEqual(raised(Event, 1, number, [9, own, 9], SOME), wanted)

    def test_how_many_changes(self):
        for many in (0, 1, 2, 13, 14, 15, 30):
            wanted = None if 1 <= many <= 14 else ("BadEvent", "changes")
            self.assertEqual(raised(Event, 0, 1, [0], many_changes(many)), wanted)
        self.assertEqual(len(Event(0, 1, [0], tuple(many_changes(14))).changes), 14)

    def test_wrong_changes(self):
        for value in ODD_VALUES + ((), [], "ab", {("a",): NONE}, ("a",), (("a",), NONE), [SOME]):
            self.assertEqual(raised(Event, 0, 1, [0], value), ("BadEvent", "changes"))
        for path in ODD_PATHS + ((), []):
            self.assertEqual(raised(Event, 0, 1, [0], [(("b",), NONE), (path, NONE)]), ("BadEvent", "changes"))
        for value in ODD_PATH_VALUES:
            self.assertEqual(raised(Event, 0, 1, [0], [(("b",), NONE), (("a",), value)]), ("BadEvent", "changes"))

    def test_one_path_twice(self):
        for one in (NONE, FOLDER, HI):
            for other in (NONE, FOLDER, HI):
                changes = [(("a",), one), (("b",), NONE), (["a"], list(other))]
                self.assertEqual(raised(Event, 0, 1, [0], changes), ("BadEvent", "changes"))

    def test_quarrels(self):
        for upper in (NONE, FOLDER, HI):
            for lower in (NONE, FOLDER, HI):
                wanted = None if upper == FOLDER or lower == NONE else ("BadEvent", "changes")
                changes = [(("a",), upper), (("b",), NONE), (("a", "x"), lower)]
                self.assertEqual(raised(Event, 0, 1, [0], changes), wanted)
                self.assertEqual(raised(Event, 0, 1, [0], changes[::-1]), wanted)


if __name__ == "__main__":
    unittest.main()
