"""Blocks: the lists of 16 integers that stand on a disk."""

from meettrees.checks import is_list, is_numbers, is_within

BLOCK_SIZE = 16
MOST_NUMBER = 65535


def is_block(value):
    """Whether any value is a block."""
    return is_numbers(value, BLOCK_SIZE, MOST_NUMBER)


def are_blocks(value, least, most):
    """Whether any value is a list of blocks, from least to most of them; None is no bound."""
    if not is_list(value) or not is_within(len(value), least, most):
        return False
    return all([is_block(part) for part in value])
