"""Heads: which half holds the log."""

import unittest

from meettrees.heads import head_block, read_heads
from tools import ODD_VALUES, block, raised

NONE = block()


class HeadBlockTest(unittest.TestCase):
    def test_blocks(self):
        for epoch in (1, 65535):
            for half in (0, 1):
                for first in (1, 65535):
                    self.assertEqual(head_block(epoch=epoch, half=half, first=first), block(7, epoch, half, first))

    def test_errors_in_their_order(self):
        for value in (0, 65536, -1, True, None, "1", 1.0, [1]):
            self.assertEqual(raised(head_block, value, 2, 0), ("BadNumber", "epoch"))
            self.assertEqual(raised(head_block, 1, 1, value), ("BadNumber", "first"))
        for value in (2, -1, True, False, None, "1", 1.0, [1]):
            self.assertEqual(raised(head_block, 1, value, 0), ("BadNumber", "half"))


class ReadHeadsTest(unittest.TestCase):
    def test_the_greater_epoch_holds(self):
        for mine in (1, 2, 3, 65535):
            for its in (1, 2, 3, 65535):
                told = read_heads(one=head_block(mine, 0, 5), other=head_block(its, 1, 6))
                self.assertEqual(told, (mine, 0, 5) if mine >= its else (its, 1, 6))

    def test_one_head_alone(self):
        head = head_block(4, 1, 65535)
        self.assertEqual(read_heads(head, NONE), (4, 1, 65535))
        self.assertEqual(read_heads(NONE, list(head)), (4, 1, 65535))
        self.assertEqual(read_heads(NONE, NONE), (0, 0, 1))

    def test_one_number_changed(self):
        head = head_block(4, 1, 9)
        rights = {1: range(1, 65536), 2: range(2), 3: range(1, 65536)}
        for place in range(16):
            for part in (0, 1, 2, 6, 7, 8, 65535):
                bent = list(head)
                bent[place] = part
                is_head = part == head[place] or part in rights.get(place, ())
                told = tuple(bent[1:4]) if is_head else (0, 0, 1)
                self.assertEqual(read_heads(bent, NONE), told)
                self.assertEqual(read_heads(NONE, bent), told)

    def test_wrong_blocks(self):
        for value in ODD_VALUES + ([0] * 15, [0] * 17, [65536] + [0] * 15):
            self.assertEqual(raised(read_heads, value, None), ("BadBlock", "one"))
            self.assertEqual(raised(read_heads, NONE, value), ("BadBlock", "other"))


if __name__ == "__main__":
    unittest.main()
