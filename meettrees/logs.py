"""Logs: lists of rows that stand on a disk, and grow at their end."""

from meettrees.blocks import MOST_NUMBER, are_blocks
from meettrees.checks import is_within
from meettrees.disks import LEAST_BLOCKS, MOST_BLOCKS, MOST_HELD, Disk, image_behind
from meettrees.errors import BadBlock, BadDisk, BadNumber, BadRow, Full, Misfit, Nothing, TooMany
from meettrees.heads import head_block, read_heads
from meettrees.papers import Paper, fixed
from meettrees.records import are_rows, is_row, many_pieces, record_blocks, whole_record

MANY_HEADS = 2


class Reading(Paper):
    """The log that is read from a half, the spot behind it, and the new stamp."""

    def __init__(self, rows, behind, stamp):
        super().__init__("reading", rows, behind, stamp)
        self.rows, self.behind, self.stamp = self.parts


class Meaning(Paper):
    """What the head that holds tells, and what is read from its half."""

    def __init__(self, epoch, half, first, rows, behind, stamp):
        super().__init__("meaning", epoch, half, first, rows, behind, stamp)
        self.epoch, self.half, self.first, self.rows, self.behind, self.stamp = self.parts


def read_log(blocks, first):
    """The Reading of these blocks, as of a half, with this first stamp."""
    if not are_blocks(blocks, 0, None):
        raise BadBlock("blocks")
    if not is_within(first, 1, MOST_NUMBER):
        raise BadNumber("first")
    return reading_of(fixed(blocks), first)


def meaning(image):
    """The Meaning of an image."""
    if not are_blocks(image, LEAST_BLOCKS, MOST_BLOCKS):
        raise BadBlock("image")
    return meaning_of(fixed(image))


def reading_of(blocks, first):
    """The Reading of a tuple of blocks that is known to be right."""
    rows, behind = records_read(blocks, first)
    return Reading(rows, behind, max(first, stamp_above(blocks)))


def meaning_of(image):
    """The Meaning of an image that is known to be right."""
    epoch, half, first = read_heads(image[0], image[1])
    told = reading_of(half_blocks(image, half), first)
    return Meaning(epoch, half, first, told.rows, told.behind, told.stamp)


def log_of(image):
    """The rows of the meaning of an image that is known to be right."""
    _, half, first = read_heads(image[0], image[1])
    return records_read(half_blocks(image, half), first)[0]


def records_read(blocks, first):
    """The rows of the records that are read from spot 0 on, and the spot behind them."""
    rows = []
    behind = 0
    least = first
    while True:
        record = whole_record(blocks, behind)
        if record is None:
            break
        stamp, number, row = record
        if number != len(rows) or stamp < least:
            break
        rows.append(row)
        behind += many_pieces(len(row))
        least = stamp
    return (tuple(rows), behind)


def stamp_above(blocks):
    """The least integer that is greater than the first one of each block; 0 if there is none."""
    return max([block[0] + 1 for block in blocks], default=0)


def many_spots(many):
    """How many blocks a half of a disk of so many numbers has."""
    return (many - MANY_HEADS) // 2


def half_begin(many, half):
    """The number at which a half begins, on a disk of so many numbers."""
    return MANY_HEADS + half * many_spots(many)


def half_blocks(image, half):
    """The blocks of a half of an image."""
    begin = half_begin(len(image), half)
    return image[begin:begin + many_spots(len(image))]


class Log:
    """The log that comes up on a disk, and keeps this very disk."""

    def __init__(self, disk):
        if not isinstance(disk, Disk):
            raise BadDisk("disk")
        if disk.held:
            raise Misfit("held")
        told = meaning_of(disk.image)
        self.disk = disk
        self.epoch = told.epoch
        self.half = told.half
        self.first = told.first
        self.rows = told.rows
        self.behind = told.behind
        self.stamp = told.stamp
        self.waiting = ()
        self.copied = None
        self.is_turned = False
        self._copy_behind = 0
        self._copy_stamp = 0

    def append(self, row):
        """Writes a row behind the log; it waits until the disk is flushed."""
        if not is_row(row):
            raise BadRow("row")
        if self.is_turned:
            raise Misfit("turn")
        pieces = many_pieces(len(row))
        self._check_room(self.behind + pieces, pieces, self.stamp)
        number = len(self.rows) + len(self.waiting)
        self._write(self.half, self.behind, record_blocks(self.stamp, number, row))
        self.behind = self.behind + pieces
        self.waiting = self.waiting + (fixed(row),)
        self.copied = None

    def flush(self):
        """Flushes the disk: what was waiting is in rows then, and a Log that is turned lands."""
        self.disk.flush()
        self.rows = self.rows + self.waiting
        self.waiting = ()
        if self.is_turned:
            self._go_on_in_copy()

    def copy(self, rows):
        """Writes rows into the other half, in the place of those that were copied ahead."""
        if not are_rows(rows):
            raise BadRow("rows")
        if self.is_turned:
            raise Misfit("turn")
        if self.waiting:
            raise Misfit("waiting")
        pieces = sum([many_pieces(len(row)) for row in rows])
        other = 1 - self.half
        # What is held counts too: it may land, and be read behind the copy.
        stamp = stamp_above(half_blocks(image_behind(self.disk.image, self.disk.held), other))
        self._check_room(pieces, pieces, stamp)
        spot = 0
        for number, row in enumerate(rows):
            self._write(other, spot, record_blocks(stamp, number, row))
            spot += many_pieces(len(row))
        self.copied = fixed(rows)
        self._copy_behind = pieces
        self._copy_stamp = stamp

    def turn(self):
        """Flushes the disk, and writes the head that tells of the copy."""
        if self.is_turned:
            raise Misfit("turn")
        if self.copied is None:
            raise Nothing()
        if self.epoch == MOST_NUMBER:
            raise Full()
        # The copy has to land ahead of its head: a cut between would leave a head without it.
        self.disk.flush()
        self.disk.write(self.epoch & 1, head_block(self.epoch + 1, 1 - self.half, self._copy_stamp))
        self.is_turned = True

    def land(self):
        """Flushes the disk behind a turning."""
        if not self.is_turned:
            raise Nothing()
        self.flush()

    def twin(self, disk):
        """The same Log on a second disk, which is equal to its own."""
        log = Log(Disk(disk.many))
        log.disk = disk
        log.epoch = self.epoch
        log.half = self.half
        log.first = self.first
        log.rows = self.rows
        log.behind = self.behind
        log.stamp = self.stamp
        log.waiting = self.waiting
        log.copied = self.copied
        log.is_turned = self.is_turned
        log._copy_behind = self._copy_behind
        log._copy_stamp = self._copy_stamp
        return log

    def _check_room(self, behind, pieces, stamp):
        """Raises what lacks for so many pieces, the last one ahead of the spot behind."""
        if len(self.disk.held) + pieces > MOST_HELD:
            raise TooMany("held", MOST_HELD)
        if behind > many_spots(self.disk.many) or stamp > MOST_NUMBER:
            raise Full()

    def _write(self, half, spot, blocks):
        """Writes blocks one behind another, from a spot of a half on."""
        begin = half_begin(self.disk.many, half) + spot
        for index, block in enumerate(blocks):
            self.disk.write(begin + index, block)

    def _go_on_in_copy(self):
        """Takes the copy for the log, once its head has landed."""
        self.epoch = self.epoch + 1
        self.half = 1 - self.half
        self.first = self._copy_stamp
        self.stamp = self._copy_stamp
        self.behind = self._copy_behind
        self.rows = self.copied
        self.copied = None
        self.is_turned = False
