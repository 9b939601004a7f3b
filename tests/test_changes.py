"""Changes, and which two of them quarrel."""

import itertools
import unittest

from meettrees.changes import do_quarrel, is_change
from tools import ODD_PATH_VALUES, ODD_PATHS, ODD_VALUES, listed, raised

NONE, FOLDER, HI, HO = ("none",), ("folder",), ("file", "hi"), ("file", "ho")
PATHS = [path for length in range(1, 4) for path in itertools.product(("a", "ab"), repeat=length)]
CHANGES = [(path, value) for path in PATHS for value in (NONE, FOLDER, HI, HO)]


def quarrel(one, other):
    """What the document says of two changes."""
    if one[0] == other[0]:
        return one[1] != other[1]
    upper, lower = sorted((one, other), key=lambda change: len(change[0]))
    is_below = len(lower[0]) > len(upper[0]) and lower[0][:len(upper[0])] == upper[0]
    return is_below and upper[1] != FOLDER and lower[1] != NONE


class ChangeTest(unittest.TestCase):
    def test_changes(self):
        for change in CHANGES + [(("a",) * 6, ("file", "")), (("a" * 12,), ("file", "~" * 60))]:
            for value in (change, listed(change), (list(change[0]), change[1]), [change[0], list(change[1])]):
                self.assertIs(is_change(value), True)

    def test_none(self):
        for value in ODD_VALUES + ((), [], (("a",),), (("a",), NONE, NONE), ["a", NONE], "ab", {("a",): NONE}):
            self.assertIs(is_change(value), False)
        for path in ODD_PATHS + ((), []):
            self.assertIs(is_change((path, NONE)), False)
        for value in ODD_PATH_VALUES:
            self.assertIs(is_change([("a",), value]), False)


class QuarrelTest(unittest.TestCase):
    def test_all_pairs(self):
        for one in CHANGES:
            for other in CHANGES:
                wanted = quarrel(one, other)
                self.assertIs(do_quarrel(one, other), wanted, (one, other))
                self.assertIs(do_quarrel(one=listed(one), other=other), wanted)
                self.assertIs(do_quarrel(one, listed(other)), wanted)

    def test_some_pairs(self):
        deep = ("a", "b", "c", "d", "e", "f")
        for one, other, wanted in (
            ((("a",), NONE), (deep, HI), True), ((("a",), HI), (deep, FOLDER), True),
            ((("a",), FOLDER), (deep, HI), False), ((("a",), NONE), (deep, NONE), False),
            ((deep[:5], HI), (deep, HO), True), ((deep[:5], FOLDER), (deep[:5], NONE), True),
            ((deep, HI), (deep, ("file", "hi")), False), ((("b",), NONE), (deep, HI), False),
        ):
            self.assertIs(do_quarrel(one, other), wanted)
            self.assertIs(do_quarrel(other, one), wanted)

    def test_wrong_in_their_order(self):
        right = (("a",), NONE)
        for value in ODD_VALUES + (((), NONE), [(), FOLDER], (("a",), "none"), (("A",), NONE), (("a",), NONE, 1)):
            self.assertEqual(raised(do_quarrel, value, None), ("BadValue", "one"))
            self.assertEqual(raised(do_quarrel, right, value), ("BadValue", "other"))

    def test_what_is_passed_stays(self):
        one, other = [["a"], ["file", "hi"]], [["a", "b"], ["folder"]]
        self.assertTrue(do_quarrel(one, other))
        self.assertEqual((one, other), ([["a"], ["file", "hi"]], [["a", "b"], ["folder"]]))


if __name__ == "__main__":
    unittest.main()
