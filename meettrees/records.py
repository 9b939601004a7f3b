"""Records: rows of integers, each in blocks that stand one behind another."""

from meettrees.blocks import MOST_NUMBER, are_blocks
from meettrees.checks import is_list, is_numbers, is_within
from meettrees.errors import BadBlock, BadNumber, BadRow
from meettrees.papers import fixed

LONGEST_ROW = 2000
HEADING = 4
PIECE = 12


def is_row(value):
    """Whether any value is a row."""
    return is_list(value) and len(value) <= LONGEST_ROW and is_numbers(value, len(value), MOST_NUMBER)


def are_rows(value):
    """Whether any value is a list of rows, perhaps of none."""
    return is_list(value) and all([is_row(part) for part in value])


def many_pieces(length):
    """How many blocks the record of a row of this length has: how long it is stands ahead of it."""
    return (1 + length + PIECE - 1) // PIECE


def record_blocks(stamp, number, row):
    """The blocks of a record."""
    if not is_within(stamp, 1, MOST_NUMBER):
        raise BadNumber("stamp")
    if not is_within(number, 0, MOST_NUMBER):
        raise BadNumber("number")
    if not is_row(row):
        raise BadRow("row")
    many = many_pieces(len(row))
    told = (len(row),) + fixed(row) + (0,) * (PIECE - 1)
    return tuple([
        (stamp, number, piece, many) + told[piece * PIECE:(piece + 1) * PIECE]
        for piece in range(many)
    ])


def record_at(blocks, at):
    """The stamp, the number and the row of the whole record that stands from at on, or None."""
    if not are_blocks(blocks, 0, None):
        raise BadBlock("blocks")
    if not is_within(at, 0, len(blocks)):
        raise BadNumber("at")
    return whole_record(fixed(blocks), at)


def whole_record(blocks, at):
    """What record_at tells, for a tuple of blocks that is known to be right, and a right index."""
    if at == len(blocks):
        return None
    stamp, number, _, many = blocks[at][:HEADING]
    pieces = blocks[at:at + many]
    if stamp == 0 or many == 0 or len(pieces) < many:
        return None
    for piece, block in enumerate(pieces):
        if block[:HEADING] != (stamp, number, piece, many):
            return None
    told = [part for block in pieces for part in block[HEADING:]]
    behind = 1 + told[0]
    if told[0] > LONGEST_ROW or many != many_pieces(told[0]) or any(told[behind:]):
        return None
    return (stamp, number, tuple(told[1:behind]))
