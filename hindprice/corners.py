"""Corners: days between which others are known to lie."""

from hindprice.checks import is_row
from hindprice.errors import BadCorner, Misfit
from hindprice.exact import is_less, levelled, over, sum_of, sum_of_products
from hindprice.needs import need_day
from hindprice.papers import fixed
from hindprice.shapes import MOST_GOODS, is_list_within


def without(rows, place, good):
    """The rows but one, each without its number for a good."""
    return [[*row[:good], *row[good + 1:]] for at, row in enumerate(rows) if at != place]


def signed(place, good, number):
    """An integer, or 0 less it at each second place."""
    if (place + good) % 2 == 1:
        return -number
    return number


def spread(rows):
    """The determinant of rows of integers."""
    if len(rows) == 0:
        return 1
    return sum([signed(0, good, number * spread(without(rows, 0, good)))
                for good, number in enumerate(rows[0]) if number != 0])


def lines_of(rows):
    """The lines of independent rows, None for rows that depend on one another."""
    levels = [levelled(row) for row in rows]
    tops = [row for row, _ in levels]
    whole = spread(tops)
    if whole == 0:
        return None
    # By Cramer's rule; a row that is so many times less has so many times the part.
    return tuple([tuple([over(signed(place, good, bottom * spread(without(tops, place, good))), whole)
                         for good in range(len(rows))])
                  for place, (_, bottom) in enumerate(levels)])


class Corner:
    """Independent rows, between which the quiet day lies."""

    def __init__(self, rows):
        if not is_list_within(rows, 1, MOST_GOODS) or not all([is_row(row, len(rows)) for row in rows]):
            raise BadCorner("rows")
        lines = lines_of(rows)
        if lines is None:
            raise Misfit("rows")
        weights = tuple([sum_of(line) for line in lines])
        if not all([is_less(0, weight) for weight in weights]):
            raise Misfit("rows")
        self.goods = len(rows)
        self.rows = fixed(rows)
        self.weights = weights
        self.lines = lines

    def __eq__(self, other):
        return isinstance(other, Corner) and self.rows == other.rows


def need_corner(corner):
    """A corner."""
    if not isinstance(corner, Corner):
        raise BadCorner("corner")


def parts_at(corner, day):
    """The parts of a day; nothing is checked."""
    return tuple([sum_of_products(line, day) for line in corner.lines])


def lines_at(corner, day):
    """The parts of a day, a number for each row."""
    need_corner(corner)
    need_day(day, corner.goods, "day")
    return parts_at(corner, day)


def is_between_of(corner, value):
    """Whether any value is a day between the rows of a corner."""
    return is_row(value, corner.goods) and not any([is_less(part, 0) for part in parts_at(corner, value)])


def is_between(corner, day):
    """Whether any value is a day between the rows of a corner."""
    need_corner(corner)
    return is_between_of(corner, day)
