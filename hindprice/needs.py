"""Each function raises the error of its kind unless the value is what is wanted."""

from hindprice.checks import is_from_0, is_number, is_row, is_within
from hindprice.errors import BadDay, BadMarket, BadMix, BadNumber, BadWord
from hindprice.shapes import MOST_GOODS, is_any_mix, is_market_of, is_word_of

MOST_DAYS = 1000


def need_within(value, least, most, part):
    """An integer within these bounds, None being none."""
    if not is_within(value, least, most):
        raise BadNumber(part)


def need_goods(goods):
    """A number of goods."""
    need_within(goods, 1, MOST_GOODS, "goods")


def need_days(days):
    """A number of days."""
    need_within(days, 0, MOST_DAYS, "days")


def need_number(value, part):
    """A number."""
    if not is_number(value):
        raise BadNumber(part)


def need_from_0(value, part):
    """A number from 0 on."""
    if not is_from_0(value):
        raise BadNumber(part)


def need_row(value, many, part):
    """A row of so many numbers from 0 on."""
    if not is_row(value, many):
        raise BadNumber(part)


def need_day(value, goods, part):
    """A day of so many goods."""
    if not is_row(value, goods):
        raise BadDay(part)


def need_market(value, goods, part):
    """A market of so many goods."""
    if not is_market_of(value, goods):
        raise BadMarket(part)


def need_word(value, goods, part):
    """A word of so many goods."""
    if not is_word_of(value, goods):
        raise BadWord(part)


def need_any_mix(value, part):
    """A mix of 1 to 5 goods."""
    if not is_any_mix(value):
        raise BadMix(part)
