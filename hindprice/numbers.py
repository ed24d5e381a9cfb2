"""Numbers: reckoned with, compared, written and read."""

from hindprice.errors import Misfit
from hindprice.exact import is_less, opposite, power_of, product_of, ratio, sum_of
from hindprice.needs import need_number, need_within
from hindprice.texts import Reader, number_item

MOST_TIMES = 1000


def need_both(one, other):
    """Two numbers; the first one that is none is told."""
    need_number(one, "one")
    need_number(other, "other")


def plus(one, other):
    """The sum of two numbers."""
    need_both(one, other)
    return sum_of([one, other])


def minus(one, other):
    """One number less another one."""
    need_both(one, other)
    return sum_of([one, opposite(other)])


def times(one, other):
    """The product of two numbers."""
    need_both(one, other)
    return product_of([one, other])


def quotient(one, other):
    """One number over another one."""
    need_both(one, other)
    if other == 0:
        raise Misfit("other")
    return ratio(one, other)


def is_below(one, other):
    """Whether one number is less than another one."""
    need_both(one, other)
    return is_less(one, other)


def power(number, many):
    """The product of a number so many times, 1 of no time."""
    need_number(number, "number")
    need_within(many, 0, MOST_TIMES, "many")
    return power_of(number, many)


def number_text(number):
    """The text of a number, one item."""
    need_number(number, "number")
    return number_item(number)


def read_number(text):
    """The number whose text it is."""
    reader = Reader(text)
    number = reader.take_number()
    reader.finish()
    return number
