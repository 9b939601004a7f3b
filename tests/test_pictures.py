"""Pictures of disks, and the web."""

import random
import time
import unittest

from meettrees.disks import Disk
from meettrees.heard import Heard
from meettrees.pictures import disk_picture, web
from histories import apart, greedy, live_told, quarrel, some_history
from tools import ODD_VALUES, block, raised


class DiskTest(unittest.TestCase):
    def test_by_chance(self):
        dice = random.Random(1)
        for _ in range(60):
            disk = Disk(dice.choice((8, 9, 32, 512)))
            for _ in range(dice.randint(0, 20)):
                what = dice.choice(("write", "write", "write", "flush", "cut"))
                if what == "write":
                    disk.write(dice.randrange(disk.many), dice.choice((block(), block(0, 1), [0] * 15 + [1], block(65535))))
                elif what == "flush":
                    disk.flush()
                else:
                    disk.cut([at for at in range(len(disk.held)) if dice.random() < 0.5])
            before = (disk.image, disk.held)
            numbers = {at for at, _ in disk.held}
            wanted = ["+" if at in numbers else ".#"[sum(disk.image[at]) > 0] for at in range(disk.many)]
            self.assertEqual(disk_picture(disk=disk), "".join(wanted))
            self.assertEqual((disk.image, disk.held), before)

    def test_what_is_held_hides_what_has_landed(self):
        disk = Disk(8)
        disk.write(3, block(1))
        disk.write(3, block())
        self.assertEqual(disk_picture(disk), "...+....")
        disk.flush()
        self.assertEqual(disk_picture(disk), "........")

    def test_wrong(self):
        for value in ODD_VALUES + (Disk, Disk(8).image):
            self.assertEqual(raised(disk_picture, value), ("BadDisk", "disk"))


class WebTest(unittest.TestCase):
    def test_by_chance(self):
        dice = random.Random(2)
        found = [0, 0]
        for _ in range(80):
            machines = dice.randint(1, 4)
            events = some_history(dice, machines, dice.randint(0, 10), meet=dice.choice((0.1, 0.4)))
            standing = live_told(events)
            shown, rows = greedy(standing), []
            for key, (path, value) in standing.items():
                foes = [other for other in standing if quarrel(standing[key], standing[other])]
                row = ["*" if key in shown else "-", *map(str, key), ":"]
                row += [str(part) for foe in foes for part in foe] or ["-"]
                row += [":", "".join("/" + name for name in path), *value]
                rows.append(" ".join(row))
                # Each live change that is not shown quarrels with one that is shown.
                self.assertTrue(key in shown or any(foe in shown for foe in foes))
                found[key in shown] += 1
            self.assertEqual(web(heard=Heard(machines, events)), tuple(rows))
        self.assertGreater(min(found), 50)

    def test_texts_as_they_are(self):
        a, b = ("a",), ("b", "c")
        rows = web(apart([(a, ("file", "")), (b, ("file", " x : y "))], [(b, ("folder",))], [(("b",), ("none",))]))
        self.assertEqual(rows, (
            "* 0 1 0 : - : /a file ", "* 0 1 1 : 1 1 0 2 1 0 : /b/c file  x : y ",
            "- 1 1 0 : 0 1 1 2 1 0 : /b/c folder", "- 2 1 0 : 0 1 1 1 1 0 : /b none",
        ))

    def test_nothing_and_wrong(self):
        for machines in (1, 8):
            self.assertEqual(web(Heard(machines, [])), ())
        for value in ODD_VALUES:
            self.assertEqual(raised(web, value), ("BadHeard", "heard"))

    def test_in_a_short_time(self):
        begin = time.monotonic()
        met = apart([(("a",), ("none",))], [(("a", "x" + str(at)), ("file", "1")) for at in range(399)])
        rows = web(met)
        self.assertEqual((len(rows), rows[0][:9], len(rows[0].split(" ")), rows[399][0]), (400, "* 0 1 0 :", 1205, "-"))
        self.assertLess(time.monotonic() - begin, 10)


if __name__ == "__main__":
    unittest.main()
