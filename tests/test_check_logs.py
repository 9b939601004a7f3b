"""Which logs can come when the plug is pulled."""

import random
import time
import unittest

from meettrees.check_logs import Comes, Never, comings, may_come, shows_may_come
from meettrees.disks import Disk
from meettrees.images import Left, NotLeft
from meettrees.logs import Log, meaning
from meettrees.papers import Denial, Paper
from meettrees.records import record_blocks
from tools import ODD_VALUES, block, copy_of, cut_image, disk_with, lots, raised

ZEROS = block()


def some_disks(seed, many):
    """Disks on which records of few stamps, numbers and rows stand and are held, also torn ones."""
    chance = random.Random(seed)
    for _ in range(many):
        image = [ZEROS] * 8
        for at in range(2, 5):
            image[at] = chance.choice((ZEROS, record_blocks(1, at - 2, [])[0], record_blocks(2, 0, [1])[0]))
        held = []
        for _ in range(chance.randrange(6)):
            number = chance.randrange(3)
            length = chance.choice((0, 1, 12))
            told = record_blocks(chance.randrange(1, 4), number, [7] * length)
            held += [(2 + number + index, one) for index, one in enumerate(told)][:chance.choice((1, 2))]
            if chance.randrange(6) == 0:
                held.append((0, block(7, 1, 1, 1)))
        yield disk_with(image, [(at, one) for at, one in held][:6])


class ComingsTest(unittest.TestCase):
    def test_all_lots(self):
        for disk in some_disks(31, 60):
            twin = copy_of(disk)
            found = {meaning(cut_image(disk, lot)).rows for lot in lots(len(disk.held))}
            self.assertEqual(comings(disk), tuple(sorted(found, key=lambda rows: (len(rows), rows))))
            self.assertEqual(disk, twin)

    def test_shorter_ones_first(self):
        disk = Disk(12)
        for row, other in (([9], [5]), ([2], [7])):
            disk.write(2, record_blocks(1, 0, row)[0])
            disk.write(3, record_blocks(1, 1, other)[0])
        told = comings(disk=disk)
        self.assertEqual(told, ((), ((2,),), ((9,),), ((2,), (5,)), ((2,), (7,)), ((9,), (5,)), ((9,), (7,))))

    def test_none_held(self):
        self.assertEqual(comings(Disk(8)), ((),))
        self.assertEqual(comings(Disk.of([ZEROS] * 2 + list(record_blocks(1, 0, [4])) + [ZEROS] * 5)), (((4,),),))

    def test_a_full_disk_comes_quickly(self):
        log = Log(Disk(512))
        for number in range(247):
            log.append([number])
        log.flush()
        for number in range(8):
            log.append([number])
        begun = time.monotonic()
        self.assertEqual(len(comings(log.disk)), 9)
        self.assertEqual(may_come(log.disk, [[1]]), Never())
        self.assertLess(time.monotonic() - begun, 10)


class MayComeTest(unittest.TestCase):
    def wanted(self, disk, rows):
        for lot in lots(len(disk.held)):
            if meaning(cut_image(disk, lot)).rows == rows:
                return Comes(lot)
        return Never()

    def test_against_all_lots(self):
        for disk in some_disks(32, 40):
            twin = copy_of(disk)
            for rows in comings(disk):
                self.assertEqual(may_come(disk, rows), self.wanted(disk, rows))
                self.assertEqual(may_come(disk=disk, rows=[list(row) for row in rows]), self.wanted(disk, rows))
                self.assertTrue(may_come(disk, rows))
            for rows in ((), ((),), ((1,),), ((), (7,)), ((7,) * 12,), ((3,),)):
                self.assertEqual(may_come(disk, rows), self.wanted(disk, rows))
            self.assertFalse(may_come(disk, [[3]]))
            self.assertEqual(disk, twin)

    def test_shorter_lots_first(self):
        disk = Disk(12)
        pieces = record_blocks(1, 0, list(range(12)))
        for at, one in ((2, pieces[0]), (3, pieces[1]), (2, block(9)), (2, pieces[0])):
            disk.write(at, one)
        self.assertEqual(may_come(disk, []), Comes(()))
        self.assertEqual(may_come(disk, [list(range(12))]), Comes((0, 1)))


class ShowsMayComeTest(unittest.TestCase):
    def test_all_lots(self):
        for disk in some_disks(33, 20):
            twin = copy_of(disk)
            for rows in comings(disk) + (((3,),), ((), ())):
                for lot in lots(len(disk.held)):
                    comes = meaning(cut_image(disk, lot)).rows == rows
                    self.assertIs(shows_may_come(disk, rows, Comes(lot)), comes)
                    self.assertIs(shows_may_come(disk, [list(row) for row in rows], Comes(list(lot))), comes)
                self.assertIs(shows_may_come(disk, rows, Never()), rows not in comings(disk))
                self.assertIs(shows_may_come(disk, rows, may_come(disk, rows)), True)
            self.assertEqual(disk, twin)

    def setUp(self):
        self.log = Log(Disk(12))
        self.log.append([5])
        self.log.append([6])
        self.rows = [[5], [6]]

    def test_bent_papers(self):
        self.assertTrue(shows_may_come(self.log.disk, self.rows, Comes([0, 1])))
        for lot in ([1, 0], [0, 0, 1], [0, 1, 2], [-2, -1], [False, True], [0, True], [0.0, 1], None, 0, "01", {},
                    [[0, 1]], [None], 10 ** 999):
            self.assertIs(shows_may_come(self.log.disk, self.rows, Comes(lot)), False)
        self.assertIs(shows_may_come(self.log.disk, [], Comes([False])), False)
        self.assertIs(shows_may_come(self.log.disk, [], Comes([True])), False)

    def test_other_values(self):
        others = (Paper("comes", [0, 1]), Denial("never"), Left([0, 1]), NotLeft(0), Comes, Never, (0, 1), [0, 1])
        for value in ODD_VALUES + others:
            self.assertIs(shows_may_come(self.log.disk, self.rows, value), False)
            self.assertIs(shows_may_come(self.log.disk, [[9]], value=value), False)


class WrongArgumentsTest(unittest.TestCase):
    def test_disks(self):
        for value in ODD_VALUES + (Disk, Log(Disk(8))):
            self.assertEqual(raised(comings, value), ("BadDisk", "disk"))
            self.assertEqual(raised(may_come, value, None), ("BadDisk", "disk"))
            self.assertEqual(raised(shows_may_come, value, None, None), ("BadDisk", "disk"))

    def test_rows(self):
        for value in ODD_VALUES + ([[], [65536]], [[0] * 2001], [[0], [True]]):
            if value not in ([[]],):
                self.assertEqual(raised(may_come, Disk(8), value), ("BadRow", "rows"))
                self.assertEqual(raised(shows_may_come, Disk(8), value, Never()), ("BadRow", "rows"))

    def test_nine_held_writes(self):
        disk = disk_with([ZEROS] * 8, [(at & 7, ZEROS) for at in range(8)])
        self.assertEqual((comings(disk), may_come(disk, []), may_come(disk, [[]])), (((),), Comes(()), Never()))
        disk.write(0, ZEROS)
        twin = copy_of(disk)
        self.assertEqual(raised(comings, disk), ("TooMany", "held", 8))
        self.assertEqual(raised(may_come, disk, []), ("TooMany", "held", 8))
        self.assertEqual(raised(shows_may_come, disk, [], None), ("TooMany", "held", 8))
        self.assertEqual(raised(may_come, disk, [[-1]]), ("BadRow", "rows"))
        self.assertEqual(raised(shows_may_come, disk, None, None), ("BadRow", "rows"))
        self.assertEqual(disk, twin)


if __name__ == "__main__":
    unittest.main()
