"""Whether papers about how a price grows are right."""

from hindprice.growth import is_split, is_steady, need_walk


def shows_growth(promise, value):
    """Whether any value is a right Steady, or a right Splits, of a best walk."""
    need_walk(promise)
    return is_steady(promise, value) or is_split(promise, value)
