"""Disks: writes, reads, flushes, cuts."""

import random
import unittest

from meettrees.disks import Disk
from tools import ODD_VALUES, block, copy_of, disk_with, lots, raised

ZEROS = block()


class MakingTest(unittest.TestCase):
    def test_new_disks(self):
        for many in (8, 9, 511, 512):
            disk = Disk(many=many)
            self.assertEqual((disk.many, disk.image, disk.held), (many, (ZEROS,) * many, ()))

    def test_bad_many(self):
        for many in (7, 513, 0, -8, 8.0, True, None, "8", [8], 10 ** 999):
            self.assertEqual(raised(Disk, many), ("BadNumber", "many"))

    def test_of(self):
        for many in (8, 512):
            image = [block(at) for at in range(many)]
            for passed in (image, tuple(image), [list(row) for row in image]):
                disk = Disk.of(image=passed)
                self.assertEqual((disk.many, disk.image, disk.held), (many, tuple(image), ()))
                self.assertIsInstance(disk.image, tuple)
                self.assertTrue(all(isinstance(row, tuple) for row in disk.image))

    def test_bad_image(self):
        for many in (0, 1, 7, 513):
            self.assertEqual(raised(Disk.of, [ZEROS] * many), ("BadBlock", "image"))
        for value in ODD_VALUES:
            self.assertEqual(raised(Disk.of, value), ("BadBlock", "image"))
            self.assertEqual(raised(Disk.of, [ZEROS] * 8 + [value]), ("BadBlock", "image"))

    def test_an_image_that_is_changed_later(self):
        image = [[0] * 16 for _ in range(8)]
        disk = Disk.of(image)
        image[2][0] = 5
        image.append([0] * 16)
        self.assertEqual(disk.image, (ZEROS,) * 8)


class WritingTest(unittest.TestCase):
    def test_what_is_held_and_what_has_landed(self):
        disk = Disk(8)
        self.assertIsNone(disk.write(0, [1] * 16))
        self.assertIsNone(disk.write(at=7, block=(2,) * 16))
        disk.write(0, [3] * 16)
        self.assertEqual(disk.held, ((0, (1,) * 16), (7, (2,) * 16), (0, (3,) * 16)))
        self.assertEqual([disk.block_at(at) for at in (0, 1, 7)], [(3,) * 16, ZEROS, (2,) * 16])
        self.assertEqual(disk.image, (ZEROS,) * 8)
        self.assertIsNone(disk.flush())
        self.assertEqual(disk.image, ((3,) * 16,) + (ZEROS,) * 6 + ((2,) * 16,))
        self.assertEqual((disk.held, disk.block_at(0), disk.block_at(at=7)), ((), (3,) * 16, (2,) * 16))
        disk.flush()
        self.assertEqual(disk.block_at(0), (3,) * 16)

    def test_bad_numbers(self):
        disk = Disk(8)
        for at in (-1, 8, True, False, None, "0", 0.0, [0], 10 ** 999):
            self.assertEqual(raised(disk.block_at, at), ("BadNumber", "at"))
            self.assertEqual(raised(disk.write, at, ZEROS), ("BadNumber", "at"))
            self.assertEqual(raised(disk.write, at, None), ("BadNumber", "at"))
        self.assertEqual(disk, Disk(8))

    def test_bad_blocks(self):
        disk = Disk(8)
        for value in ODD_VALUES + ([0] * 15, [0] * 17, [65536] + [0] * 15):
            self.assertEqual(raised(disk.write, 0, value), ("BadBlock", "block"))
        self.assertEqual(disk, Disk(8))

    def test_what_is_passed_stays(self):
        disk, passed = Disk(8), [1] * 16
        disk.write(3, passed)
        passed[0] = 9
        passed.append(9)
        self.assertEqual(disk.held, ((3, (1,) * 16),))
        landed = [0]
        disk.cut(landed)
        self.assertEqual(landed, [0])

    def test_two_thousand_held_writes(self):
        disk = Disk(8)
        for count in range(2000):
            disk.write(count % 8, block(count))
        twin = copy_of(disk)
        self.assertEqual(raised(disk.write, 0, ZEROS), ("TooMany", "held", 2000))
        self.assertEqual(raised(disk.write, 8, ZEROS), ("BadNumber", "at"))
        self.assertEqual(raised(disk.write, 0, [0]), ("BadBlock", "block"))
        self.assertEqual(disk, twin)
        self.assertEqual(len(disk.held), 2000)
        disk.cut(list(range(0, 2000, 2)))
        self.assertEqual([row[0] for row in disk.image], [1992, 0, 1994, 0, 1996, 0, 1998, 0])
        disk.write(0, ZEROS)


class CutTest(unittest.TestCase):
    def test_no_some_and_all(self):
        held = [(2, block(1)), (5, block(2)), (2, block(3)), (2, block(4))]
        for lot, second, fifth in (((), 0, 0), ((0,), 1, 0), ((1, 2), 3, 2), ((0, 2), 3, 0), ((0, 1, 2, 3), 4, 2)):
            for landed in (lot, list(lot)):
                disk = disk_with([ZEROS] * 8, held)
                self.assertIsNone(disk.cut(landed=landed))
                self.assertEqual((disk.image[2][0], disk.image[5][0], disk.held), (second, fifth, ()))

    def test_bad_lots(self):
        disk = disk_with([ZEROS] * 8, [(2, block(1)), (5, block(2))])
        twin = copy_of(disk)
        for lot in ([2], [0, 2], [1, 0], [0, 0], [-1], [True], [0, True], [False], [None], None, 0, "", "0", {}, {0}):
            self.assertEqual(raised(disk.cut, lot), ("BadLot", "landed"))
        self.assertEqual(disk, twin)
        self.assertEqual(raised(Disk(8).cut, [0]), ("BadLot", "landed"))

    def test_a_flush_is_the_cut_by_all(self):
        chance = random.Random(4)
        for _ in range(50):
            held = [(chance.randrange(8), block(chance.randrange(3))) for _ in range(chance.randrange(9))]
            image = [block(chance.randrange(3)) for _ in range(8)]
            disks = [disk_with(image, held) for _ in range(3)]
            read = tuple(disks[0].block_at(at) for at in range(8))
            disks[0].flush()
            disks[1].cut(list(range(len(held))))
            disks[2].cut(())
            self.assertEqual((disks[0].image, disks[1].image, disks[2].image), (read, read, tuple(image)))

    def test_each_lot_against_a_plain_model(self):
        chance = random.Random(5)
        for _ in range(10):
            held = [(chance.randrange(8), block(chance.randrange(9))) for _ in range(5)]
            for lot in lots(5):
                disk, model = disk_with([ZEROS] * 8, held), {}
                for index in lot:
                    model[held[index][0]] = held[index][1]
                disk.cut(lot)
                self.assertEqual(disk.image, tuple(model.get(at, ZEROS) for at in range(8)))


class EqualityTest(unittest.TestCase):
    def test_equal(self):
        self.assertTrue(Disk(8) == Disk.of([ZEROS] * 8))
        one, other = Disk(8), Disk(8)
        one.write(2, ZEROS)
        self.assertFalse(one == other)
        self.assertTrue(one != other)
        other.write(2, [0] * 16)
        self.assertTrue(one == other)
        one.flush()
        self.assertFalse(one == other)
        other.flush()
        self.assertTrue(one == other)

    def test_held_in_another_order(self):
        one = disk_with([ZEROS] * 8, [(2, block(1)), (3, block(1))])
        other = disk_with([ZEROS] * 8, [(3, block(1)), (2, block(1))])
        self.assertFalse(one == other)

    def test_other_values(self):
        self.assertFalse(Disk(8) == Disk(9))
        for value in (None, 8, (ZEROS,) * 8, "disk", object()):
            self.assertIs(Disk(8) == value, False)


if __name__ == "__main__":
    unittest.main()
