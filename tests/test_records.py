"""Records: rows in blocks."""

import unittest

from meettrees.records import is_row, record_at, record_blocks
from tools import ODD_VALUES, block, raised

LENGTHS = (0, 1, 10, 11, 12, 13, 22, 23, 24, 35, 36, 500, 1999, 2000)


class RowTest(unittest.TestCase):
    def test_right(self):
        for row in ([], (), [0], (65535,), [0] * 2000, tuple(range(2000))):
            self.assertIs(is_row(row), True)

    def test_none(self):
        for row in ODD_VALUES:
            self.assertIs(is_row(row), False)
        for row in ([0] * 2001, [65536], [-1], [0, True], [0, None], ["0"], {0: 0}, "00", [[0]]):
            self.assertIs(is_row(row), False)


class RecordBlocksTest(unittest.TestCase):
    def test_pieces(self):
        for length in LENGTHS:
            row = list(range(1, length + 1))
            blocks = record_blocks(7, 3, row)
            many = -(-(length + 1) // 12)
            self.assertEqual(len(blocks), many)
            self.assertIsInstance(blocks, tuple)
            told = [length] + row
            told += [0] * (many * 12 - len(told))
            for piece, one in enumerate(blocks):
                self.assertEqual(one, (7, 3, piece, many, *told[12 * piece:12 * piece + 12]))

    def test_bounds(self):
        self.assertEqual(record_blocks(stamp=65535, number=65535, row=(65535,)), (block(65535, 65535, 0, 1, 1, 65535),))
        self.assertEqual(record_blocks(1, 0, ()), (block(1, 0, 0, 1, 0),))

    def test_errors_in_their_order(self):
        for stamp in (0, 65536, -1, True, None, "1", 1.0):
            self.assertEqual(raised(record_blocks, stamp, -1, None), ("BadNumber", "stamp"))
        for number in (-1, 65536, False, None, "1", 1.0):
            self.assertEqual(raised(record_blocks, 1, number, None), ("BadNumber", "number"))
        for row in ODD_VALUES + ([0] * 2001, [65536], [-1]):
            self.assertEqual(raised(record_blocks, 1, 0, row), ("BadRow", "row"))


class RecordAtTest(unittest.TestCase):
    def test_what_was_written_is_read(self):
        for length in LENGTHS:
            row = tuple(range(length))
            blocks = record_blocks(9, 4, row)
            self.assertEqual(record_at(blocks, 0), (9, 4, row))
            self.assertEqual(record_at([list(one) for one in blocks], 0), (9, 4, row))
            self.assertEqual(record_at((block(),) + blocks + (block(5),), at=1), (9, 4, row))
            self.assertIsNone(record_at(blocks, len(blocks)))
            for at in range(1, len(blocks)):
                self.assertIsNone(record_at(blocks, at))

    def test_bounds(self):
        for stamp in (1, 65535):
            for number in (0, 65535):
                self.assertEqual(record_at(record_blocks(stamp, number, [65535]), 0), (stamp, number, (65535,)))

    def test_one_number_changed(self):
        blocks = record_blocks(9, 4, list(range(1, 31)))
        for piece, one in enumerate(blocks):
            for place in range(16):
                for part in (0, one[place] + 1, 65535):
                    bent = [list(kept) for kept in blocks]
                    bent[piece][place] = part
                    told = record_at(bent, 0)
                    index = piece * 12 + place - 5
                    if tuple(bent[piece]) == one:
                        self.assertEqual(told[2], tuple(range(1, 31)))
                    elif (piece, place, part) == (0, 4, 31):
                        self.assertEqual(told[2], tuple(range(1, 31)) + (0,))
                    elif place >= 4 and 0 <= index < 30:
                        self.assertEqual(told[2][index], part)
                    else:
                        self.assertIsNone(told, (piece, place, part))

    def test_cut_short_doubled_turned(self):
        blocks = record_blocks(9, 4, list(range(30)))
        self.assertEqual(len(blocks), 3)
        for bent in (blocks[:1], blocks[:2], blocks[1:], blocks[:1] + blocks, blocks[:2] + blocks[1:], blocks[::-1],
                     (blocks[0], blocks[2], blocks[1]), blocks[:2] + (block(),)):
            self.assertIsNone(record_at(bent, 0))
        self.assertEqual(record_at(blocks + blocks, 3), (9, 4, tuple(range(30))))
        self.assertEqual(record_at(blocks[:1] + blocks, 1), (9, 4, tuple(range(30))))

    def test_pieces_of_unlike_records(self):
        one, other = record_blocks(9, 4, list(range(12))), record_blocks(8, 4, list(range(12)))
        self.assertIsNone(record_at((one[0], other[1]), 0))
        third = record_blocks(9, 5, list(range(12)))
        self.assertIsNone(record_at((one[0], third[1]), 0))

    def test_no_stamp_no_pieces(self):
        self.assertIsNone(record_at([block(0, 0, 0, 1, 0)], 0))
        self.assertIsNone(record_at([block(1, 0, 0, 0, 0)], 0))
        self.assertIsNone(record_at([block(1, 0, 1, 1, 0)], 0))
        self.assertIsNone(record_at([block()], 0))

    def test_needless_or_missing_pieces(self):
        self.assertIsNone(record_at([block(1, 0, 0, 2, 3), block(1, 0, 1, 2)], 0))
        self.assertIsNone(record_at([block(1, 0, 0, 2, 11), block(1, 0, 1, 2)], 0))
        self.assertEqual(record_at([block(1, 0, 0, 2, 12), block(1, 0, 1, 2)], 0), (1, 0, (0,) * 12))
        self.assertIsNone(record_at([block(1, 0, 0, 1, 12)], 0))
        self.assertIsNone(record_at([block(1, 0, 0, 1, 65535)], 0))

    def test_no_row_is_longer_than_two_thousand(self):
        pieces = [block(1, 0, piece, 167, 2001 if piece == 0 else 0) for piece in range(167)]
        self.assertIsNone(record_at(pieces, 0))
        pieces = [block(1, 0, piece, 167, 2000 if piece == 0 else 0) for piece in range(167)]
        self.assertEqual(record_at(pieces, 0), (1, 0, (0,) * 2000))

    def test_wrong_arguments(self):
        for value in ODD_VALUES:
            if value not in ((), []):
                self.assertEqual(raised(record_at, value, None), ("BadBlock", "blocks"))
        self.assertEqual(raised(record_at, [block(), [0] * 15], 9), ("BadBlock", "blocks"))
        self.assertIsNone(record_at([], 0))
        for at in (-1, 3, True, False, None, "0", 1.0):
            self.assertEqual(raised(record_at, [block()] * 2, at), ("BadNumber", "at"))
        self.assertEqual(raised(record_at, [], 1), ("BadNumber", "at"))


if __name__ == "__main__":
    unittest.main()
