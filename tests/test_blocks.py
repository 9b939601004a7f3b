"""Blocks: lists of 16 integers from 0 to 65535."""

import unittest

from meettrees.blocks import is_block
from tools import ODD_VALUES


class BlockTest(unittest.TestCase):
    def test_right(self):
        for value in ([0] * 16, [65535] * 16, list(range(16)), [0, 65535] * 8):
            self.assertIs(is_block(value), True)
            self.assertIs(is_block(tuple(value)), True)

    def test_lengths(self):
        for length in (0, 1, 8, 15, 17, 32):
            self.assertIs(is_block([0] * length), False)

    def test_each_place(self):
        for place in range(16):
            for part in (-1, 65536, 10 ** 999, True, False, None, "0", 0.0, [0], (0,)):
                value = [0] * 16
                value[place] = part
                self.assertIs(is_block(value), False)
                self.assertIs(is_block(tuple(value)), False)

    def test_other_values(self):
        for value in ODD_VALUES + ("0" * 16, bytes(16), bytearray(16), {k: 0 for k in range(16)}):
            self.assertIs(is_block(value), False)


if __name__ == "__main__":
    unittest.main()
