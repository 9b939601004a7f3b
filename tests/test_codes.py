"""Rows of events."""

import random
import unittest

from meettrees.codes import event_of, row_of
from meettrees.events import Event
from meettrees.records import is_row
from tools import ODD_VALUES, listed, raised

NONE, FOLDER = ("none",), ("folder",)


def told_row(event):
    """The row of an event, as the document tells it."""
    row = [event.machine, event.number, len(event.past), *event.past, len(event.changes)]
    for path, value in event.changes:
        row.append(len(path))
        for name in path:
            row += [len(name), *map(ord, name)]
        row += {"none": [0], "folder": [1], "file": [2]}[value[0]]
        for text in value[1:]:
            row += [len(text), *map(ord, text)]
    return tuple(row)


def greatest_event():
    """An event whose row is as long as one can be."""
    changes = [(("abcdefghij" + str(number),) + ("z" * 12,) * 5, ("file", "~" * 60)) for number in range(10, 24)]
    return Event(7, 60000, [60000] * 7 + [59999], changes)


def some_event(dice):
    """An event by chance."""
    machines = dice.randint(1, 8)
    machine = dice.randrange(machines)
    number = dice.choice((1, 2, 300, 60000))
    past = [dice.choice((0, 1, 60000)) for _ in range(machines)]
    past[machine] = number - 1
    changes = {}
    for index in range(dice.randint(1, 14)):
        names = ["".join(dice.choices("ab9", k=dice.randint(1, 12))) for _ in range(dice.randint(0, 5))]
        text = "".join(dice.choices(" !$&~azAZ09/", k=dice.choice((0, 1, 5, 60))))
        changes[("c" + str(index), *names)] = dice.choice((NONE, FOLDER, ("file", text)))
    return Event(machine, number, past, list(changes.items()))


class RowTest(unittest.TestCase):
    def test_rows_to_and_fro(self):
        dice = random.Random(6)
        for _ in range(300):
            event = some_event(dice)
            row = row_of(event)
            self.assertEqual(row, told_row(event))
            self.assertIsInstance(row, tuple)
            self.assertTrue(is_row(row) and len(row) <= 1986 and max(row) <= 60000)
            self.assertTrue(event_of(row) == event)
            self.assertTrue(event_of(row=list(row)) == event)
            self.assertIsInstance(event_of(row), Event)

    def test_the_greatest_row(self):
        event = greatest_event()
        row = row_of(event)
        self.assertEqual(len(row), 1986)
        self.assertEqual(row, told_row(event))
        self.assertTrue(event_of(row) == event)
        for wrong in (row + (0,), row[:-1], row[1:], row * 2):
            self.assertEqual(raised(event_of, wrong), ("BadRow", "row"))

    def test_the_least_row(self):
        event = Event(0, 1, [0], [(("a",), NONE)])
        self.assertEqual(row_of(event=event), (0, 1, 1, 0, 1, 1, 1, 97, 0))
        self.assertTrue(event_of((0, 1, 1, 0, 1, 1, 1, 97, 0)) == event)

    def test_every_sign(self):
        for code in range(0, 300):
            row = (0, 1, 1, 0, 1, 1, 1, 97, 2, 1, code)
            if 32 <= code <= 126 and code != 37:
                self.assertEqual(event_of(row).changes[0][1], ("file", chr(code)))
            else:
                self.assertEqual(raised(event_of, row), ("BadRow", "row"))
            row = (0, 1, 1, 0, 1, 1, 1, code, 0)
            if chr(code) in "abcdefghijklmnopqrstuvwxyz0123456789":
                self.assertEqual(event_of(row).changes[0][0], (chr(code),))
            else:
                self.assertEqual(raised(event_of, row), ("BadRow", "row"))

    def test_row_of_anything_else(self):
        for value in ODD_VALUES + ((0, 1, (0,), ((("a",), NONE),)),):
            self.assertEqual(raised(row_of, value), ("BadEvent", "event"))


class WrongRowTest(unittest.TestCase):
    def test_odd_values(self):
        for value in ODD_VALUES + ((), [], [[0, 1, 1, 0, 1, 1, 1, 97, 0]], "0110", [0] * 50000, [1] * 2000):
            self.assertEqual(raised(event_of, value), ("BadRow", "row"))

    def test_no_row_begins_with_another(self):
        dice = random.Random(7)
        for _ in range(20):
            row = row_of(some_event(dice))
            for length in dice.sample(range(len(row)), min(60, len(row))):
                self.assertEqual(raised(event_of, row[:length]), ("BadRow", "row"))
            for more in ((0,), (1,), row):
                self.assertEqual(raised(event_of, row + more), ("BadRow", "row"))

    def test_one_number_changed(self):
        dice = random.Random(8)
        for _ in range(30):
            event = some_event(dice)
            row = row_of(event)
            # The numbers ahead of the names are all bent, of those behind only some.
            for at in set(range(min(15, len(row)))) | set(dice.choices(range(len(row)), k=20)):
                for part in {0, 1, 2, 37, 97, 60001, 65535, row[at] + 1, row[at] - 1, -1, 10 ** 999} - {row[at]}:
                    bent = row[:at] + (part,) + row[at + 1:]
                    if raised(event_of, bent) is None:
                        self.assertEqual(row_of(event_of(bent)), bent)
                        self.assertFalse(event_of(bent) == event)
                    else:
                        self.assertEqual(raised(event_of, bent), ("BadRow", "row"))
                for part in (True, None, "1", 1.0, [row[at]], float(row[at])):
                    bent = list(row[:at]) + [part] + list(row[at + 1:])
                    self.assertEqual(raised(event_of, bent), ("BadRow", "row"))

    def test_changes_that_do_not_ascend(self):
        first, second = (1, 1, 98, 0), (1, 1, 99, 0)
        head = (1, 1, 2, 0, 0, 2)
        self.assertIsNone(raised(event_of, head + first + second))
        for wrong in (head + second + first, head + first + first):
            self.assertEqual(raised(event_of, wrong), ("BadRow", "row"))

    def test_what_no_event_has(self):
        change = (1, 1, 97, 0)
        self.assertIsNone(raised(event_of, (1, 2, 2, 60000, 1, 1) + change))
        for head in ((1, 2, 2, 60001, 1, 1), (1, 2, 2, 0, 2, 1), (2, 2, 2, 0, 1, 1), (1, 0, 2, 0, 0, 1), (8, 1, 8) + (0,) * 8,
                     (0, 1, 9) + (0,) * 9 + (1,), (0, 60001, 1, 60000, 1), (0, 1, 0, 1), (0, 1, 1, 0, 0)):
            self.assertEqual(raised(event_of, head + change), ("BadRow", "row"), head)
        for change in ((0, 0), (7,) + (1, 97) * 7 + (0,), (1, 0, 0), (1, 13) + (97,) * 13 + (0,), (1, 1, 97, 3),
                       (1, 1, 97, 2, 61) + (97,) * 61, (1, 1, 37, 0), (1, 1, 65, 0), (1, 1, 97, 2), (1, 1, 97, 2, 1)):
            self.assertEqual(raised(event_of, (0, 1, 1, 0, 1) + change), ("BadRow", "row"), change)
        above, below = (1, 1, 97, 0), (2, 1, 97, 1, 98, 1)
        self.assertEqual(raised(event_of, (0, 1, 1, 0, 2) + above + below), ("BadRow", "row"))
        many = [(2, 97, code, 1) for code in range(97, 113)]
        for length in (14, 15):
            row = (0, 1, 1, 0, length) + tuple(part for one in many[:length] for part in (1,) + one)
            self.assertEqual(raised(event_of, row), None if length == 14 else ("BadRow", "row"))

    def test_what_is_passed_stays(self):
        row = list(row_of(greatest_event()))
        kept = listed(row)
        event_of(row)
        self.assertEqual(row, kept)


class UnlikeTest(unittest.TestCase):
    def test_unlike_events_have_unlike_rows(self):
        dice = random.Random(9)
        events = [some_event(dice) for _ in range(150)]
        events += [
            Event(0, 1, [0] * many, [(path, value)])
            for many in (1, 2, 8)
            for path in (("a",), ("b",), ("aa",), ("a", "a"), ("a", "b"), ("ab",))
            for value in (NONE, FOLDER, ("file", ""), ("file", "a"), ("file", "aa"))
        ]
        rows = [row_of(event) for event in events]
        for one, row in zip(events, rows):
            for other, its in zip(events, rows):
                self.assertEqual(one == other, row == its)


if __name__ == "__main__":
    unittest.main()
