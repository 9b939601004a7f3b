"""Images: what a cut can leave."""

import random
import unittest

from meettrees.check_logs import Comes, Never
from meettrees.disks import Disk
from meettrees.images import Left, NotLeft, could_leave, images, shows_left
from meettrees.papers import Denial, Paper
from tools import ODD_VALUES, block, copy_of, cut_image, disk_with, lots, raised

ZEROS = block()


def some_disks(seed, many, most):
    """Disks with up to so many held writes, at few numbers and with few blocks."""
    chance = random.Random(seed)
    for _ in range(many):
        image = [block(0, chance.randrange(3)) for _ in range(8)]
        held = [(chance.randrange(4), block(0, chance.randrange(3))) for _ in range(chance.randrange(most + 1))]
        yield disk_with(image, held)


class ImagesTest(unittest.TestCase):
    def test_all_lots(self):
        for disk in some_disks(1, 60, 8):
            twin = copy_of(disk)
            wanted = sorted({cut_image(disk, lot) for lot in lots(len(disk.held))})
            self.assertEqual(images(disk), tuple(wanted))
            self.assertEqual(disk, twin)

    def test_none_held(self):
        self.assertEqual(images(Disk(8)), ((ZEROS,) * 8,))
        self.assertEqual(images(disk=disk_with([ZEROS] * 8, [(0, ZEROS)])), ((ZEROS,) * 8,))

    def test_eight_and_nine(self):
        disk = Disk(512)
        for count in range(8):
            disk.write(511 - 60 * count, block(1 + count))
        self.assertEqual(len(images(disk)), 256)
        self.assertEqual(list(images(disk)), sorted(set(images(disk))))
        disk.write(0, ZEROS)
        twin = copy_of(disk)
        self.assertEqual(raised(images, disk), ("TooMany", "held", 8))
        self.assertEqual(disk, twin)

    def test_bad_disks(self):
        for value in ODD_VALUES + (Disk, Disk(8).image):
            self.assertEqual(raised(images, value), ("BadDisk", "disk"))
            self.assertEqual(raised(could_leave, value, None), ("BadDisk", "disk"))
            self.assertEqual(raised(shows_left, value, None, None), ("BadDisk", "disk"))

    def test_bad_images(self):
        disk = Disk(9)
        for value in ODD_VALUES + ([ZEROS] * 8, [ZEROS] * 10, [ZEROS] * 8 + [[0] * 15], [ZEROS] * 8 + [None]):
            self.assertEqual(raised(could_leave, disk, value), ("BadBlock", "image"))
            self.assertEqual(raised(shows_left, disk, value, Left([])), ("BadBlock", "image"))


class CouldLeaveTest(unittest.TestCase):
    def wanted(self, disk, image):
        for lot in lots(len(disk.held)):
            if cut_image(disk, lot) == image:
                return Left(lot)
        for at in range(disk.many):
            if image[at] not in [disk.image[at]] + [row for number, row in disk.held if number == at]:
                return NotLeft(at)

    def test_against_all_lots(self):
        chance = random.Random(2)
        for disk in some_disks(3, 40, 6):
            twin = copy_of(disk)
            for _ in range(8):
                image = tuple(block(0, chance.randrange(3)) if at < 4 else disk.image[at] for at in range(8))
                self.assertEqual(could_leave(disk, image), self.wanted(disk, image))
                self.assertEqual(could_leave(disk, [list(row) for row in image]), self.wanted(disk, image))
            for image in images(disk):
                told = could_leave(disk, image)
                self.assertIsInstance(told, Left)
                self.assertEqual(told, self.wanted(disk, image))
            self.assertEqual(disk, twin)

    def test_many_held_writes(self):
        disk = Disk(512)
        for count in range(2000):
            disk.write(count * 7 & 511, block(1, count))
        read = tuple(disk.block_at(at) for at in range(512))
        told = could_leave(disk=disk, image=read)
        self.assertEqual(told.landed, tuple(range(2000 - 512, 2000)))
        self.assertEqual(cut_image(disk, told.landed), read)
        self.assertTrue(shows_left(disk, read, Left(list(range(2000)))))
        self.assertFalse(shows_left(disk, read, Left(list(range(1999)))))
        self.assertEqual(could_leave(disk, read[:511] + (block(2),)), NotLeft(511))
        self.assertEqual(could_leave(disk, read[:3] + (block(1, 2), read[4]) + read[5:]), NotLeft(3))

    def test_the_first_write_of_equal_ones(self):
        disk = disk_with([ZEROS] * 8, [(1, block(1)), (0, block(2)), (1, block(3)), (1, block(1)), (0, block(2))])
        self.assertEqual(could_leave(disk, [block(2), block(1)] + [ZEROS] * 6), Left([0, 1]))
        self.assertEqual(could_leave(disk, [block(2), block(3)] + [ZEROS] * 6), Left([1, 2]))
        self.assertEqual(could_leave(disk, [ZEROS, block(3)] + [ZEROS] * 6), Left([2]))

    def test_what_has_landed_needs_no_write(self):
        disk = disk_with([block(1)] + [ZEROS] * 7, [(0, block(1)), (0, block(2))])
        self.assertEqual(could_leave(disk, [block(1)] + [ZEROS] * 7), Left(()))

    def test_an_image_passed_stays(self):
        image = [[0] * 16 for _ in range(8)]
        could_leave(Disk(8), image)
        shows_left(Disk(8), image, Left([]))
        self.assertEqual(image, [[0] * 16] * 8)


class ShowsLeftTest(unittest.TestCase):
    def test_all_lots(self):
        for disk in some_disks(6, 25, 5):
            for image in (disk.image, images(disk)[-1], (block(9),) + disk.image[1:]):
                for lot in lots(len(disk.held)):
                    self.assertIs(shows_left(disk, image, Left(lot)), cut_image(disk, lot) == image)
                    self.assertIs(shows_left(disk, image, Left(list(lot))), cut_image(disk, lot) == image)
                for at in range(-1, 10):
                    stands = 0 <= at < 8 and image[at] not in [disk.image[at], *[b for n, b in disk.held if n == at]]
                    self.assertIs(shows_left(disk, image, NotLeft(at)), stands)
                self.assertIs(shows_left(disk, image, could_leave(disk, image)), True)

    def setUp(self):
        self.disk = disk_with([ZEROS] * 8, [(0, block(1)), (1, block(2))])
        self.both = [block(1), block(2)] + [ZEROS] * 6

    def test_bent_papers(self):
        self.assertTrue(shows_left(self.disk, self.both, Left((0, 1))))
        for lot in ([1, 0], [0, 0, 1], [0, 1, 1], [0, 1, 2], [-2, -1], [False, True], [0, True], [False, 1], [0.0, 1],
                    None, 0, "01", {}, [[0, 1]], [None], ([0], [1]), 10 ** 999):
            self.assertIs(shows_left(self.disk, self.both, Left(lot)), False)
        self.assertIs(shows_left(self.disk, self.disk.image, Left([False])), False)

    def test_bent_denials(self):
        image = [block(9), block(9)] + [ZEROS] * 6
        self.assertTrue(shows_left(self.disk, image, NotLeft(0)))
        self.assertTrue(shows_left(self.disk, image, NotLeft(1)))
        for at in (2, 7, 8, -1, -8, True, False, None, "0", 0.0, [0], (0,), 10 ** 999):
            self.assertIs(shows_left(self.disk, image, NotLeft(at)), False)

    def test_the_first_and_the_last_number(self):
        image = [block(9)] + [ZEROS] * 6 + [block(9)]
        rights = [at for at in range(-10, 10) if shows_left(self.disk, image, NotLeft(at))]
        self.assertEqual(rights, [0, 7])

    def test_other_values(self):
        for value in ODD_VALUES + (Paper("left", [0, 1]), Denial("notleft", 0), Comes([0, 1]), Never(), (0, 1), [0, 1],
                                   Left, NotLeft, ("left", ((0, 1),))):
            self.assertIs(shows_left(self.disk, self.both, value), False)
            self.assertIs(shows_left(self.disk, [block(9)] * 8, value=value), False)


if __name__ == "__main__":
    unittest.main()
