"""Questions that may be asked of any value."""

NAME_SIGNS = "abcdefghijklmnopqrstuvwxyz0123456789"
LONGEST_NAME = 12


def is_list(value):
    """Whether it is a list or a tuple: one may be passed for the other everywhere."""
    return isinstance(value, (list, tuple))


def is_integer(value):
    """Whether it is an integer; True and False are none."""
    return isinstance(value, int) and not isinstance(value, bool)


def is_within(value, least, most):
    """Whether it is an integer from least to most; None is no bound."""
    if not is_integer(value):
        return False
    return (least is None or value >= least) and (most is None or value <= most)


def are_integers(value):
    """Whether it is a list of integers, perhaps of none."""
    return is_list(value) and all([is_integer(part) for part in value])


def is_numbers(value, many, most):
    """Whether it is a list of so many integers from 0 to most."""
    if not is_list(value) or len(value) != many:
        return False
    return all([is_within(part, 0, most) for part in value])


def is_lot(value, many):
    """Whether it is a lot of integers from 0 below many: ascending, none twice."""
    if not is_list(value) or not is_numbers(value, len(value), many - 1):
        return False
    return all([one < other for one, other in zip(value, value[1:])])


def is_name(value):
    """Whether it is a string of 1 to 12 small letters from a to z and digits."""
    if not isinstance(value, str) or not is_within(len(value), 1, LONGEST_NAME):
        return False
    return all([sign in NAME_SIGNS for sign in value])
