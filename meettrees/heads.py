"""Heads: the blocks that tell which half of a disk holds the log."""

from meettrees.blocks import MOST_NUMBER, is_block
from meettrees.checks import is_within
from meettrees.errors import BadBlock, BadNumber

HEAD_MARK = 7
MANY_ZEROS = 12
NO_HEAD = (0, 0, 1)


def head_block(epoch, half, first):
    """The head that tells this."""
    if not is_within(epoch, 1, MOST_NUMBER):
        raise BadNumber("epoch")
    if not is_within(half, 0, 1):
        raise BadNumber("half")
    if not is_within(first, 1, MOST_NUMBER):
        raise BadNumber("first")
    return (HEAD_MARK, epoch, half, first) + (0,) * MANY_ZEROS


def read_heads(one, other):
    """The epoch, the half and the first stamp of the head that holds."""
    if not is_block(one):
        raise BadBlock("one")
    if not is_block(other):
        raise BadBlock("other")
    mine, its = told_by(one), told_by(other)
    # No head is told with the epoch 0, so any head is greater.
    return its if its[0] > mine[0] else mine


def told_by(block):
    """The epoch, the half and the first stamp that a block tells, if it is a head."""
    mark, epoch, half, first, *zeros = block
    if mark != HEAD_MARK or any(zeros):
        return NO_HEAD
    if epoch == 0 or half > 1 or first == 0:
        return NO_HEAD
    return (epoch, half, first)
