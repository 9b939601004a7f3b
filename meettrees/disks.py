"""Disks: blocks that have landed, and writes that are held until a flush or a cut."""

from meettrees.blocks import BLOCK_SIZE, are_blocks, is_block
from meettrees.checks import is_lot, is_within
from meettrees.errors import BadBlock, BadLot, BadNumber, TooMany
from meettrees.papers import fixed

LEAST_BLOCKS = 8
MOST_BLOCKS = 512
MOST_HELD = 2000


def image_behind(image, writes):
    """The image that stands when these writes have landed on one, one after the other."""
    blocks = list(image)
    for at, block in writes:
        blocks[at] = block
    return tuple(blocks)


class Disk:
    """A disk with so many numbers, on which blocks of 0s have landed."""

    def __init__(self, many):
        if not is_within(many, LEAST_BLOCKS, MOST_BLOCKS):
            raise BadNumber("many")
        self.many = many
        self.image = ((0,) * BLOCK_SIZE,) * many
        self.held = ()

    @staticmethod
    def of(image):
        """A disk on which just this image has landed, and nothing is held."""
        if not are_blocks(image, LEAST_BLOCKS, MOST_BLOCKS):
            raise BadBlock("image")
        disk = Disk(len(image))
        disk.image = fixed(image)
        return disk

    def __eq__(self, other):
        return isinstance(other, Disk) and self.image == other.image and self.held == other.held

    def block_at(self, at):
        """The block that is read at a number: that of the last held write there, or what has landed."""
        if not is_within(at, 0, self.many - 1):
            raise BadNumber("at")
        for number, block in reversed(self.held):
            if number == at:
                return block
        return self.image[at]

    def write(self, at, block):
        """Holds a write behind what is held already."""
        if not is_within(at, 0, self.many - 1):
            raise BadNumber("at")
        if not is_block(block):
            raise BadBlock("block")
        if len(self.held) >= MOST_HELD:
            raise TooMany("held", MOST_HELD)
        self.held = self.held + ((at, fixed(block)),)

    def flush(self):
        """Lands all held writes."""
        self.image = image_behind(self.image, self.held)
        self.held = ()

    def cut(self, landed):
        """Lands a lot of the held writes; the others are gone."""
        if not is_lot(landed, len(self.held)):
            raise BadLot("landed")
        self.image = image_behind(self.image, [self.held[index] for index in landed])
        self.held = ()
