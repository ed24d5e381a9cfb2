"""Lots, doublings and figures."""

from math import comb

from hindprice.errors import BadNumber
from hindprice.exact import bottom_of, is_less, top_of
from hindprice.needs import need_from_0, need_number, need_within

MOST_THINGS = 1000
MOST_FIGURES = 1000


def choose(many, some):
    """How many lots of some things there are among many."""
    need_within(many, 0, MOST_THINGS, "many")
    need_within(some, 0, many, "some")
    return comb(many, some)


def doublings(number):
    """The least k from 0 on for which 2 to the k is at least the number."""
    need_number(number, "number")
    if not is_less(0, number):
        raise BadNumber("number")
    # A power of 2 is an integer: it is at least the number if it is at least
    # the next integer, and the bits of one less than this count the doublings.
    above = -(-top_of(number) // bottom_of(number))
    return (above - 1).bit_length()


def figures_of(number, many):
    """The first so many binary figures of a number from 0 on below 1."""
    need_from_0(number, "number")
    if not is_less(number, 1):
        raise BadNumber("number")
    need_within(many, 0, MOST_FIGURES, "many")
    figures = []
    rest = top_of(number)
    for _ in range(many):
        rest = rest * 2
        figures.append(str(rest // bottom_of(number)))
        rest = rest % bottom_of(number)
    return "".join(figures)
