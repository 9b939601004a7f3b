"""Logs: reading, the meaning of an image, appending, copying, turning, landing."""

import random
import unittest

from meettrees.check_logs import comings
from meettrees.disks import Disk
from meettrees.heads import head_block
from meettrees.logs import Log, Meaning, Reading, meaning, read_log
from meettrees.records import record_at, record_blocks
from tools import ODD_VALUES, block, copy_of, cut_image, disk_with, lots, raised

ZEROS = block()
ATTRIBUTES = "epoch half first behind stamp rows waiting copied is_turned".split()


def state(log):
    """All that a Log tells, with its disk."""
    return [getattr(log, name) for name in ATTRIBUTES] + [log.disk.image, log.disk.held]


def half_of(image, half):
    """The blocks of a half."""
    spots = (len(image) - 2) // 2
    return image[2 + half * spots:2 + (half + 1) * spots]


class ReadLogTest(unittest.TestCase):
    def wanted(self, blocks, first):
        rows, spot, least = [], 0, first
        while spot <= len(blocks):
            told = record_at(blocks, spot)
            if told is None or told[1] != len(rows) or told[0] < least:
                break
            least = told[0]
            rows.append(told[2])
            spot += len(record_blocks(1, 0, told[2]))
        stamp = first
        while any(one[0] >= stamp for one in blocks):
            stamp += 1
        return Reading(rows, spot, stamp)

    def test_against_a_plain_model(self):
        chance = random.Random(11)
        for _ in range(400):
            blocks = []
            for number in range(chance.randrange(6)):
                stamp, length = chance.randrange(1, 6), chance.choice((0, 3, 11, 12, 24))
                told = list(record_blocks(stamp, chance.choice((number, number, number, 0)), [number] * length))
                blocks += told[:chance.choice((9, 9, 9, 1))] + [ZEROS] * chance.choice((0, 0, 0, 1))
            first = chance.randrange(1, 8)
            self.assertEqual(read_log(blocks, first), self.wanted(blocks, first))

    def test_stamps_that_rise_stay_and_fall(self):
        for stamps, many in (((1, 1, 1), 3), ((1, 2, 65535), 3), ((2, 2, 1), 2), ((3, 2, 2), 1), ((1, 3, 2), 2)):
            blocks = [record_blocks(stamp, number, [stamp])[0] for number, stamp in enumerate(stamps)]
            told = read_log(blocks, 1)
            self.assertEqual(told.parts, (tuple((stamp,) for stamp in stamps[:many]), many, max(stamps) + 1))

    def test_each_first_stamp(self):
        blocks = record_blocks(5, 0, [1]) + record_blocks(6, 1, [2])
        for first in (1, 4, 5):
            self.assertEqual(read_log(blocks=blocks, first=first).parts, (((1,), (2,)), 2, 7))
        for first, stamp in ((6, 7), (7, 7), (8, 8), (65535, 65535)):
            self.assertEqual(read_log(blocks, first).parts, ((), 0, stamp))

    def test_numbers_that_do_not_go_on(self):
        for numbers, many in (((0, 1, 2), 3), ((1, 2), 0), ((0, 0), 1), ((0, 2), 1), ((0, 1, 1), 2)):
            blocks = [record_blocks(1, number, [])[0] for number in numbers]
            self.assertEqual(read_log(blocks, 1).rows, ((),) * many)

    def test_lists_and_tuples(self):
        blocks = record_blocks(1, 0, [7] * 20) + record_blocks(1, 1, [])
        lists = [list(one) for one in blocks]
        self.assertEqual(read_log(lists, 1), read_log(blocks, 1))
        self.assertEqual(lists, [list(one) for one in blocks])
        image = [list(head_block(2, 0, 1)), [0] * 16] + lists + [[0] * 16] * 3
        self.assertEqual(meaning(image).parts, (2, 0, 1, ((7,) * 20, ()), 3, 2))
        self.assertEqual(Log(Disk.of(image)).rows, ((7,) * 20, ()))

    def test_a_half_that_is_full(self):
        blocks = record_blocks(1, 0, [7] * 20) + record_blocks(1, 1, [])
        self.assertEqual(read_log(blocks, 1).parts, (((7,) * 20, ()), 3, 2))
        blocks = record_blocks(1, 0, [7] * 20) + record_blocks(1, 1, [7] * 20)
        self.assertEqual(read_log(blocks[:3], 1).parts, (((7,) * 20,), 2, 2))

    def test_the_new_stamp(self):
        self.assertEqual(read_log([block(65535)], 1).stamp, 65536)
        self.assertEqual(read_log([block(65534)], 65535).stamp, 65535)
        self.assertEqual(read_log([ZEROS, block(9, 9, 9), block(3)], 1).stamp, 10)
        self.assertEqual(read_log([ZEROS], 1).stamp, 1)
        self.assertEqual(read_log([], 65535).parts, ((), 0, 65535))

    def test_wrong_arguments(self):
        for value in ODD_VALUES:
            self.assertEqual(raised(read_log, value, None), ("BadBlock", "blocks"))
            self.assertEqual(raised(read_log, [ZEROS, value], 0), ("BadBlock", "blocks"))
        for first in (0, 65536, -1, True, None, "1", 1.0, [1]):
            self.assertEqual(raised(read_log, [], first), ("BadNumber", "first"))


class MeaningTest(unittest.TestCase):
    def test_heads_tell_the_half(self):
        one, other = list(record_blocks(3, 0, [1])), list(record_blocks(4, 0, [2]))
        body = one + [ZEROS] * 2 + other + [ZEROS] * 2
        for heads, wanted in (
            ([ZEROS, ZEROS], (0, 0, 1, ((1,),), 1, 4)),
            ([head_block(1, 1, 2), ZEROS], (1, 1, 2, ((2,),), 1, 5)),
            ([head_block(1, 1, 2), head_block(2, 0, 4)], (2, 0, 4, (), 0, 4)),
            ([head_block(2, 1, 9), head_block(2, 0, 3)], (2, 1, 9, (), 0, 9)),
        ):
            told = meaning(image=heads + body)
            self.assertEqual(told, Meaning(*wanted))
            self.assertTrue(told)

    def test_halves_of_any_disk(self):
        for many in (8, 9, 10, 511, 512):
            spots = (many - 2) // 2
            image = [head_block(1, 1, 1), ZEROS] + [block(number) for number in range(many - 2)]
            self.assertEqual(meaning(image).stamp, 2 * spots)
            self.assertEqual(meaning([ZEROS] + image[1:]).stamp, spots)

    def test_a_record_does_not_reach_over_the_half(self):
        image = [ZEROS, ZEROS] + [record_blocks(1, number, [])[0] for number in (0, 1)]
        image += list(record_blocks(1, 2, [5] * 20)) + [ZEROS] * 2
        self.assertEqual(meaning(image).rows, ((), ()))

    def test_wrong_images(self):
        for value in ODD_VALUES + ([ZEROS] * 7, [ZEROS] * 513, [ZEROS] * 8 + [None]):
            self.assertEqual(raised(meaning, value), ("BadBlock", "image"))
        self.assertEqual(meaning([ZEROS] * 512).parts, (0, 0, 1, (), 0, 1))


class ComingUpTest(unittest.TestCase):
    def test_a_new_disk(self):
        disk = Disk(8)
        log = Log(disk=disk)
        self.assertIs(log.disk, disk)
        self.assertEqual(state(log)[:9], [0, 0, 1, 0, 1, (), (), None, False])

    def test_the_meaning(self):
        image = [head_block(3, 1, 5), ZEROS] + [ZEROS] * 3 + [block(5, 0, 0, 1, 1, 8), block(30), ZEROS]
        log = Log(Disk.of(image))
        told = meaning(image)
        self.assertEqual(state(log)[:6], [3, 1, 5, 1, 31, ((8,),)])
        self.assertEqual(told.parts, (3, 1, 5, ((8,),), 1, 31))

    def test_wrong_disks(self):
        for value in ODD_VALUES + (Disk, [ZEROS] * 8):
            self.assertEqual(raised(Log, value), ("BadDisk", "disk"))
        disk = disk_with([ZEROS] * 8, [(7, ZEROS)])
        self.assertEqual(raised(Log, disk), ("Misfit", "held"))
        self.assertEqual(len(disk.held), 1)


class AppendTest(unittest.TestCase):
    def test_rows_wait_until_the_flush(self):
        log = Log(Disk(20))
        passed = [1, 2]
        self.assertIsNone(log.append(passed))
        passed.append(3)
        log.append(row=tuple(range(12)))
        self.assertEqual((log.rows, log.waiting, log.behind), ((), ((1, 2), tuple(range(12))), 3))
        self.assertEqual([at for at, _ in log.disk.held], [2, 3, 4])
        self.assertEqual(tuple(row for _, row in log.disk.held),
                         record_blocks(1, 0, [1, 2]) + record_blocks(1, 1, list(range(12))))
        self.assertIsNone(log.flush())
        self.assertEqual((log.rows, log.waiting, log.disk.held), (((1, 2), tuple(range(12))), (), ()))
        log.append([])
        self.assertEqual(log.disk.held, ((5, block(1, 2, 0, 1, 0)),))
        log.flush()
        again = Log(log.disk)
        self.assertEqual((again.rows, again.behind, again.stamp), (((1, 2), tuple(range(12)), ()), 4, 2))

    def test_full(self):
        log = Log(Disk(9))
        log.append([0] * 23)
        before = state(log)
        self.assertEqual(raised(log.append, [0] * 12), ("Full",))
        self.assertEqual(state(log), before)
        log.append([0] * 11)
        before = state(log)
        self.assertEqual(raised(log.append, []), ("Full",))
        self.assertEqual(state(log), before)
        log.flush()
        self.assertEqual(Log(log.disk).rows, ((0,) * 23, (0,) * 11))

    def test_no_stamp_left(self):
        image = [ZEROS] * 2 + [ZEROS, ZEROS, block(65535)] + [ZEROS] * 3
        log = Log(Disk.of(image))
        self.assertEqual(log.stamp, 65536)
        self.assertEqual(raised(log.append, []), ("Full",))
        self.assertEqual(raised(log.append, [65536]), ("BadRow", "row"))
        image[4] = block(65534)
        log = Log(Disk.of(image))
        log.append([])
        self.assertEqual(log.disk.held, ((2, block(65535, 0, 0, 1)),))

    def test_bad_rows_come_first(self):
        log = Log(Disk(8))
        for value in ODD_VALUES + ([0] * 2001, [65536], [-1], [0, True]):
            self.assertEqual(raised(log.append, value), ("BadRow", "row"))
        log.copy([])
        log.turn()
        before = state(log)
        self.assertEqual(raised(log.append, [65536]), ("BadRow", "row"))
        self.assertEqual(raised(log.append, [0] * 2000), ("Misfit", "turn"))
        self.assertEqual(state(log), before)

    def test_too_many_held(self):
        log = Log(Disk(512))
        for _ in range(7):
            log.copy([[0] * 1991] + [[]] * 88)
        log.copy([[]] * 210)
        self.assertEqual(len(log.disk.held), 7 * 254 + 210)
        before = state(log)
        self.assertEqual(raised(log.append, [0] * 132), None)
        self.assertEqual(len(log.disk.held), 2000)
        self.assertEqual(raised(log.append, []), ("TooMany", "held", 2000))
        self.assertEqual(raised(log.copy, [[]]), ("Misfit", "waiting"))
        log.flush()
        self.assertEqual(log.rows, ((0,) * 132,))
        self.assertEqual(before[5], ())

    def test_too_many_stands_ahead_of_full(self):
        log = Log(Disk(8))
        for _ in range(666):
            log.copy([[], [], []])
        self.assertEqual(len(log.disk.held), 1998)
        before = state(log)
        self.assertEqual(raised(log.append, [0] * 24), ("TooMany", "held", 2000))
        self.assertEqual(raised(log.copy, [[]] * 4), ("TooMany", "held", 2000))
        self.assertEqual(raised(log.copy, [[]] * 70000), ("TooMany", "held", 2000))
        self.assertEqual(state(log), before)
        log.append([0] * 23)
        self.assertEqual((len(log.disk.held), log.copied), (2000, None))


class CopyTest(unittest.TestCase):
    def test_the_copy_stands_in_the_other_half(self):
        log = Log(Disk(12))
        log.append([3])
        log.flush()
        passed = [[1], [2] * 12]
        self.assertIsNone(log.copy(rows=passed))
        passed[0].append(9)
        self.assertEqual(passed, [[1, 9], [2] * 12])
        self.assertEqual(log.copied, ((1,), (2,) * 12))
        self.assertEqual([at for at, _ in log.disk.held], [7, 8, 9])
        self.assertEqual((log.rows, log.behind, log.half, log.is_turned), (((3,),), 1, 0, False))
        self.assertEqual(meaning(cut_image(log.disk, (0, 1, 2))).rows, ((3,),))

    def test_a_further_copy(self):
        log = Log(Disk(12))
        log.copy([[1], [1]])
        log.copy(([2],))
        self.assertEqual(log.copied, ((2,),))
        self.assertEqual([row[:2] for _, row in log.disk.held], [(1, 0), (1, 1), (2, 0)])
        log.flush()
        self.assertEqual(log.copied, ((2,),))
        log.copy([])
        log.copy([[4]])
        self.assertEqual(log.disk.held, ((7, block(3, 0, 0, 1, 1, 4)),))
        log.turn()
        log.land()
        self.assertEqual((log.rows, log.behind, log.stamp, log.first), (((4,),), 1, 3, 3))
        self.assertEqual(Log(log.disk).rows, ((4,),))

    def test_the_stamp_of_the_copy(self):
        image = [ZEROS] * 5 + [block(9), ZEROS, block(40)]
        log = Log(Disk.of(image))
        log.copy([[]])
        self.assertEqual(log.disk.held, ((5, block(41, 0, 0, 1)),))
        log.copy([[], [], []])
        self.assertEqual([row[0] for _, row in log.disk.held], [41, 42, 42, 42])
        log.copy([[], []])
        self.assertEqual([row[0] for _, row in log.disk.held][-2:], [43, 43])

    def test_an_append_forgets_the_copy(self):
        log = Log(Disk(12))
        log.copy([[1]])
        log.append([2])
        self.assertIsNone(log.copied)
        self.assertEqual(raised(log.turn), ("Nothing",))
        self.assertEqual(raised(log.copy, [[1]]), ("Misfit", "waiting"))
        log.flush()
        log.copy([[1]])
        self.assertEqual(log.copied, ((1,),))

    def test_what_raises_forgets_nothing(self):
        log = Log(Disk(8))
        log.copy([[1]])
        before = state(log)
        self.assertEqual(raised(log.append, [0] * 2000), ("Full",))
        self.assertEqual(raised(log.append, None), ("BadRow", "row"))
        self.assertEqual(raised(log.copy, [[]] * 4), ("Full",))
        self.assertEqual(raised(log.copy, [[0] * 36]), ("Full",))
        self.assertEqual(raised(log.land), ("Nothing",))
        self.assertEqual(state(log), before)

    def test_room(self):
        log = Log(Disk(8))
        log.copy([[0] * 23, [0] * 11])
        self.assertEqual(raised(log.copy, [[0] * 23, [0] * 12]), ("Full",))
        self.assertEqual(log.copied, ((0,) * 23, (0,) * 11))

    def test_no_stamp_left(self):
        log = Log(Disk.of([ZEROS] * 7 + [block(65535)]))
        self.assertEqual(raised(log.copy, [[]]), ("Full",))
        self.assertEqual(raised(log.copy, []), ("Full",))
        log = Log(Disk.of([ZEROS] * 7 + [block(65534)]))
        log.copy([[]])
        self.assertEqual(log.disk.held[0][1][0], 65535)

    def test_wrong_rows_and_their_order(self):
        log = Log(Disk(8))
        for value in ODD_VALUES + ([[], [65536]], [[0] * 2001], [[0], [True]]):
            if value not in ([[]],):
                self.assertEqual(raised(log.copy, value), ("BadRow", "rows"))
        log.append([])
        self.assertEqual(raised(log.copy, [1]), ("BadRow", "rows"))
        self.assertEqual(raised(log.copy, [[0] * 2000]), ("Misfit", "waiting"))
        log.flush()
        log.copy([])
        log.turn()
        before = state(log)
        self.assertEqual(raised(log.copy, [1]), ("BadRow", "rows"))
        self.assertEqual(raised(log.copy, [[0] * 2000]), ("Misfit", "turn"))
        self.assertEqual(state(log), before)


class TurnTest(unittest.TestCase):
    def test_turn_and_land(self):
        log = Log(Disk(8))
        for epoch in range(5):
            log.copy([[epoch], [9]])
            self.assertIsNone(log.turn())
            self.assertEqual((log.is_turned, log.epoch, log.half), (True, epoch, epoch & 1))
            self.assertEqual(log.copied, ((epoch,), (9,)))
            first = log.disk.held[0][1][3]
            self.assertEqual(log.disk.held, ((epoch & 1, head_block(epoch + 1, 1 - (epoch & 1), first)),))
            self.assertIsNone(log.flush() if epoch & 1 else log.land())
            self.assertEqual(state(log)[:9], [epoch + 1, 1 - (epoch & 1), first, 2, first, ((epoch,), (9,)), (), None,
                                              False])
            told = meaning(log.disk.image)
            self.assertEqual(told.parts, (epoch + 1, log.half, first, log.rows, 2, first + 1))

    def test_it_goes_on_with_the_stamp_of_the_copy(self):
        log = Log(Disk.of([ZEROS] * 5 + [block(9)] * 3))
        log.copy([[1]])
        log.turn()
        log.land()
        log.append([2])
        self.assertEqual(log.disk.held, ((6, block(10, 1, 0, 1, 1, 2)),))
        log.flush()
        self.assertEqual(Log(log.disk).rows, ((1,), (2,)))

    def test_an_empty_copy(self):
        log = Log(Disk(8))
        log.append([5])
        log.flush()
        log.copy([])
        self.assertEqual(log.copied, ())
        log.turn()
        log.land()
        self.assertEqual((log.rows, log.behind, log.first, log.stamp), ((), 0, 1, 1))
        self.assertEqual(Log(log.disk).rows, ())

    def test_errors(self):
        log = Log(Disk(8))
        self.assertEqual(raised(log.turn), ("Nothing",))
        self.assertEqual(raised(log.land), ("Nothing",))
        log.copy([[1]])
        log.turn()
        before = state(log)
        self.assertEqual(raised(log.turn), ("Misfit", "turn"))
        self.assertEqual(state(log), before)
        log.land()
        before = state(log)
        self.assertEqual(raised(log.land), ("Nothing",))
        self.assertEqual(raised(log.turn), ("Nothing",))
        self.assertEqual(state(log), before)

    def test_the_last_epoch(self):
        log = Log(Disk.of([head_block(65534, 0, 1)] + [ZEROS] * 7))
        log.copy([[1]])
        log.turn()
        log.land()
        self.assertEqual(log.epoch, 65535)
        self.assertEqual(raised(log.turn), ("Nothing",))
        log.copy([[1]])
        before = state(log)
        self.assertEqual(raised(log.turn), ("Full",))
        self.assertEqual(state(log), before)
        self.assertEqual(len(log.disk.held), 1)

    def test_a_turn_flushes_what_is_held(self):
        log = Log(Disk(512))
        for _ in range(8):
            log.copy([[]] * 250)
        log.turn()
        self.assertEqual(len(log.disk.held), 1)
        self.assertEqual(half_of(log.disk.image, 1)[0][0], 8)


class TwinTest(unittest.TestCase):
    def test_a_twin_goes_on_alone(self):
        log = Log(Disk(16))
        steps = (
            lambda one: one.append([1]), lambda one: one.flush(), lambda one: one.copy([[2], [3]]), lambda one: one.turn(),
            lambda one: one.land(), lambda one: one.append([4]), lambda one: one.flush(), lambda one: one.copy([]),
            lambda one: one.turn(), lambda one: one.flush(), lambda one: one.append([5]),
        )
        for step in steps:
            disk = copy_of(log.disk)
            other, before = log.twin(disk), state(log)
            self.assertIs(other.disk, disk)
            self.assertEqual(state(other), before)
            step(other)
            self.assertEqual(state(log), before)
            step(log)
            self.assertEqual(state(log), state(other))


class CutTest(unittest.TestCase):
    """A Log at any moment, cut by any lot, and coming up again."""

    def one_step(self, log, chance):
        row = [chance.randrange(5) for _ in range(chance.choice((0, 1, 3, 11, 12, 25)))]
        step = chance.randrange(8)
        if step < 3:
            raised(log.append, row)
        elif step == 3:
            log.flush()
        elif step == 4:
            raised(log.copy, list(log.rows))
        elif step == 5:
            raised(log.copy, [row])
        else:
            raised(log.turn)

    def logs_that_may_come(self, log):
        found = [log.rows + log.waiting[:many] for many in range(len(log.waiting) + 1)]
        if log.is_turned:
            found.append(log.copied)
        return found

    def test_any_cut_at_any_moment(self):
        chance = random.Random(21)
        moments = turned = 0
        for _ in range(60):
            log = Log(Disk(chance.choice((8, 12, 17))))
            for _ in range(40):
                self.one_step(log, chance)
                held = len(log.disk.held)
                if held > 8:
                    log.flush()
                    continue
                moments += 1
                turned += log.is_turned
                wanted = sorted(set(self.logs_that_may_come(log)), key=lambda rows: (len(rows), rows))
                if held < 6:
                    came = {meaning(cut_image(log.disk, lot)).rows for lot in lots(held)}
                    self.assertEqual(sorted(came, key=lambda rows: (len(rows), rows)), wanted)
                self.assertEqual(comings(log.disk), tuple(wanted))
                if chance.randrange(6) == 0:
                    log.disk.cut([index for index in range(held) if chance.randrange(2)])
                    log = Log(log.disk)
                    self.assertIn(log.rows, wanted)
        self.assertGreater(moments, 1000)
        self.assertGreater(turned, 100)

    def test_what_was_not_whole_never_comes_again(self):
        chance = random.Random(22)
        for _ in range(200):
            log, gone, count = Log(Disk(12)), [], 0
            for _ in range(12):
                while True:
                    count += 1
                    if raised(log.append, [count] * chance.choice((1, 12))) or chance.randrange(2):
                        break
                waiting = log.rows + log.waiting
                log.disk.cut([index for index in range(len(log.disk.held)) if chance.randrange(3)])
                log = Log(log.disk)
                self.assertEqual(log.rows, waiting[:len(log.rows)])
                gone += waiting[len(log.rows):]
                self.assertFalse(set(gone) & set(log.rows))

    def test_the_other_half_changes_no_meaning(self):
        log = Log(Disk(12))
        log.append([1])
        log.flush()
        before = meaning(log.disk.image)
        log.copy([[2], [3]])
        self.assertEqual([meaning(cut_image(log.disk, lot)) == before for lot in lots(2)], [True] * 4)

    def test_an_old_record_in_the_other_half_needs_the_first_stamp(self):
        log = Log(Disk(8))
        log.append([1])
        log.flush()
        for rows in ([[2]], []):
            log.copy(rows)
            log.turn()
            log.land()
        self.assertEqual((log.half, log.rows, log.first), (0, (), 2))
        self.assertEqual(Log(copy_of(log.disk)).rows, ())


if __name__ == "__main__":
    unittest.main()
