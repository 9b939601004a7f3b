"""Checks: questions about any values."""

import unittest

from meettrees.checks import are_integers, is_integer, is_lot, is_name, is_numbers, is_within
from tools import ODD_VALUES

NO_INTEGERS = (None, True, False, "3", 3.0, b"3", [3], (3,), {3: 3}, {3}, 3j, object())


class IntegerTest(unittest.TestCase):
    def test_is_integer(self):
        for value in (0, 1, -1, 65536, 10 ** 999, -(10 ** 999)):
            self.assertIs(is_integer(value), True)
        for value in NO_INTEGERS:
            self.assertIs(is_integer(value), False)

    def test_is_within(self):
        for value in range(-3, 9):
            self.assertIs(is_within(value, 0, 5), 0 <= value <= 5)
            self.assertIs(is_within(value, None, 5), value <= 5)
            self.assertIs(is_within(value, 0, None), 0 <= value)
            self.assertIs(is_within(value, None, None), True)
            self.assertIs(is_within(value, 5, 0), False)
        self.assertIs(is_within(value=-2, least=-2, most=-2), True)
        for value in NO_INTEGERS:
            self.assertIs(is_within(value, None, None), False)
            self.assertIs(is_within(value, 0, 5), False)

    def test_are_integers(self):
        for value in ([], (), [0], (1, -2), [10 ** 999]):
            self.assertIs(are_integers(value), True)
        for part in NO_INTEGERS:
            self.assertIs(are_integers([1, part]), False)
            self.assertIs(are_integers((part, 1)), False)
        for value in (None, 1, "", "12", {}, {1: 2}, {1}, range(3), b"12"):
            self.assertIs(are_integers(value), False)

    def test_is_numbers(self):
        self.assertIs(is_numbers([0, 5], 2, 5), True)
        self.assertIs(is_numbers((5, 0, 5), many=3, most=5), True)
        self.assertIs(is_numbers((), 0, 5), True)
        for value in ([0, 6], [-1, 0], [0], [0, 0, 0], [], [0, True], [0, None], "00", {0: 0, 1: 1}, range(2), None):
            self.assertIs(is_numbers(value, 2, 5), False)
        for value in ODD_VALUES:
            self.assertIs(is_numbers(value, 16, 5), False)


class LotTest(unittest.TestCase):
    def test_lots(self):
        for value in ([], (), [0], (2,), [0, 1, 2], (0, 2)):
            self.assertIs(is_lot(value, 3), True)
        self.assertIs(is_lot([], many=0), True)

    def test_none(self):
        for value in ([3], [-1], [0, 3], [1, 0], [0, 0], [0, 2, 1], [0, 2, 2], [True], [0, True], [False], [0, "1"],
                      [0, None], [0, [1]]):
            self.assertIs(is_lot(value, 3), False)
            self.assertIs(is_lot(tuple(value), 3), False)
        self.assertIs(is_lot([0], 0), False)
        for value in (None, 0, "", "01", {}, {0: 1}, {0}, range(2), b""):
            self.assertIs(is_lot(value, 3), False)


class NameTest(unittest.TestCase):
    def test_lengths(self):
        for length, is_right in ((0, False), (1, True), (12, True), (13, False), (100000, False)):
            self.assertIs(is_name("a" * length), is_right)

    def test_signs(self):
        right = "abcdefghijklmnopqrstuvwxyz0123456789"
        for code in list(range(256)) + [0x3b1, 0x661, 0xff11, 0xff41, 0x1d7d8]:
            self.assertIs(is_name(chr(code)), chr(code) in right)
            self.assertIs(is_name("a" + chr(code)), chr(code) in right)
            self.assertIs(is_name(chr(code) + "0"), chr(code) in right)

    def test_other_values(self):
        for value in (None, 1, True, ["a"], ("a",), b"a", {"a": 1}, "", "a\n", " a", "A", "a_b", "a-b", "a/b"):
            self.assertIs(is_name(value), False)


if __name__ == "__main__":
    unittest.main()
