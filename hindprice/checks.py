"""What integers, numbers and rows are. All functions take any values."""

from math import gcd


def is_integer(value):
    """Whether it is an integer; True and False are none."""
    return isinstance(value, int) and not isinstance(value, bool)


def is_within(value, least, most):
    """Whether it is an integer from least to most; None is no bound."""
    if not is_integer(value):
        return False
    return (least is None or value >= least) and (most is None or value <= most)


def is_list(value):
    """Whether it is a list or a tuple, which may stand for one another."""
    return isinstance(value, (list, tuple))


def is_number(value):
    """Whether it is an integer, or a pair that stands for no other number."""
    if is_integer(value):
        return True
    if not is_list(value) or len(value) != 2:
        return False
    return is_integer(value[0]) and is_within(value[1], 2, None) and gcd(value[0], value[1]) == 1


def is_from_0(value):
    """Whether it is a number that is not below 0."""
    if is_integer(value):
        return value >= 0
    return is_number(value) and value[0] >= 0


def is_row(value, many):
    """Whether it is a list or tuple of just so many numbers, each from 0 on."""
    if not is_list(value) or not is_integer(many) or len(value) != many:
        return False
    return all([is_from_0(item) for item in value])
