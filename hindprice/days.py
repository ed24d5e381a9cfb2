"""Days, markets and mixes, and what mixes are paid."""

from hindprice.checks import is_row
from hindprice.exact import product_of, sum_of_products
from hindprice.needs import (
    need_any_mix,
    need_day,
    need_goods,
    need_market,
    need_within,
    need_word,
)
from hindprice.shapes import is_market_of, is_mix_of


def is_day(value, goods):
    """Whether any value is a day of so many goods."""
    need_goods(goods)
    return is_row(value, goods)


def is_market(value, goods):
    """Whether any value is a market of so many goods."""
    need_goods(goods)
    return is_market_of(value, goods)


def is_mix(value, goods):
    """Whether any value is a mix of so many goods."""
    need_goods(goods)
    return is_mix_of(value, goods)


def lightning_of(goods, good):
    """The day with 1 at this good and 0 elsewhere; nothing is checked."""
    return tuple([1 if at == good else 0 for at in range(goods)])


def lightning(goods, good):
    """The lightning of a good."""
    need_goods(goods)
    need_within(good, 0, goods - 1, "good")
    return lightning_of(goods, good)


def lightnings(goods, word):
    """The market of the lightnings of a word's goods."""
    need_goods(goods)
    need_word(word, goods, "word")
    return tuple([lightning_of(goods, good) for good in word])


def paid(shares, day):
    """What a mix pays on a day."""
    need_any_mix(shares, "shares")
    need_day(day, len(shares), "day")
    return sum_of_products(shares, day)


def run(shares, market):
    """What a mix runs to over a market, 1 without days."""
    need_any_mix(shares, "shares")
    need_market(market, len(shares), "market")
    return product_of([sum_of_products(shares, day) for day in market])
