"""What markets, words and mixes are. The number of goods was checked before."""

from hindprice.checks import is_list, is_row, is_within
from hindprice.exact import sum_of

MOST_GOODS = 5


def is_list_within(value, least, most):
    """Whether it is a list or tuple of at least and at most so many items."""
    return is_list(value) and is_within(len(value), least, most)


def is_market_of(value, goods):
    """Whether any value is a market of so many goods."""
    return is_list(value) and all([is_row(day, goods) for day in value])


def is_any_market(value):
    """Whether any value is a market of 1 to 5 goods, as its first day tells."""
    if not is_list(value):
        return False
    if len(value) == 0:
        return True
    return is_list_within(value[0], 1, MOST_GOODS) and is_market_of(value, len(value[0]))


def is_integers(value, least, most):
    """Whether any value is a list or tuple of integers within these bounds."""
    return is_list(value) and all([is_within(item, least, most) for item in value])


def is_word_of(value, goods):
    """Whether any value is a word of so many goods."""
    return is_integers(value, 0, goods - 1)


def is_mix_of(value, goods):
    """Whether any value is a mix of so many goods."""
    return is_row(value, goods) and sum_of(value) == 1


def is_any_mix(value):
    """Whether any value is a mix of 1 to 5 goods."""
    return is_list_within(value, 1, MOST_GOODS) and is_mix_of(value, len(value))
