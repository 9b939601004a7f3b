"""What a cut can leave on a disk."""

from meettrees.blocks import are_blocks
from meettrees.checks import is_lot, is_within
from meettrees.disks import Disk, image_behind
from meettrees.errors import BadBlock, BadDisk, TooMany
from meettrees.papers import Denial, Paper, fixed

MOST_CUT = 8


class Left(Paper):
    """A lot of held writes by which a cut leaves the image."""

    def __init__(self, landed):
        super().__init__("left", landed)
        self.landed = self.parts[0]


class NotLeft(Denial):
    """A number at which no cut leaves the block of the image."""

    def __init__(self, at):
        super().__init__("notleft", at)
        self.at = self.parts[0]


def image_cut(disk, landed):
    """The image that a cut by this lot leaves; the disk stays."""
    return image_behind(disk.image, [disk.held[index] for index in landed])


def images(disk):
    """All images that a cut can leave now, ascending."""
    if not isinstance(disk, Disk):
        raise BadDisk("disk")
    if len(disk.held) > MOST_CUT:
        raise TooMany("held", MOST_CUT)
    found = [disk.image]
    # From the left, each with its blocks ascending: so the images ascend, and none comes twice.
    for at in sorted(set([number for number, block in disk.held])):
        blocks = blocks_left(disk, at)
        found = [image[:at] + (block,) + image[at + 1:] for image in found for block in blocks]
    return tuple(found)


def blocks_left(disk, at):
    """The blocks that a cut can leave at a number, ascending."""
    return sorted(set([disk.image[at]] + [block for number, block in disk.held if number == at]))


def could_leave(disk, image):
    """The Left of the first lot by which a cut leaves this image, or the NotLeft of the first number."""
    check_image(disk, image)
    firsts = first_writes(disk)
    landed = []
    for at, block in enumerate(fixed(image)):
        if block == disk.image[at]:
            continue
        if (at, block) not in firsts:
            return NotLeft(at)
        landed.append(firsts[(at, block)])
    return Left(sorted(landed))


def first_writes(disk):
    """For each number and block that are held together, the first write that has both."""
    firsts = {}
    for index, write in enumerate(disk.held):
        firsts.setdefault(write, index)
    return firsts


def shows_left(disk, image, value):
    """Whether any value is a right paper of could_leave."""
    check_image(disk, image)
    want = fixed(image)
    if isinstance(value, Left):
        return is_lot(value.landed, len(disk.held)) and image_cut(disk, value.landed) == want
    if isinstance(value, NotLeft):
        return is_within(value.at, 0, disk.many - 1) and want[value.at] not in blocks_left(disk, value.at)
    return False


def check_image(disk, image):
    """Raises what could_leave raises."""
    if not isinstance(disk, Disk):
        raise BadDisk("disk")
    if not are_blocks(image, disk.many, disk.many):
        raise BadBlock("image")
