"""Sellers, and what they have at words and at markets."""

from hindprice.checks import is_from_0
from hindprice.errors import BadSeller
from hindprice.exact import levelled, over, product_of
from hindprice.machines import MOST_STANDINGS
from hindprice.needs import need_market, need_word
from hindprice.papers import fixed
from hindprice.shapes import is_any_mix, is_integers, is_list_within


def is_seller_row(value, many):
    """Whether any value is a mix, and for each of its goods one of so many standings."""
    if not is_list_within(value, 2, 2) or not is_any_mix(value[0]):
        return False
    return is_integers(value[1], 0, many - 1) and len(value[1]) == len(value[0])


def are_seller_rows(value):
    """Whether any value is a list of 1 to 6 rows, all of as many goods."""
    if not is_list_within(value, 1, MOST_STANDINGS):
        return False
    if not all([is_seller_row(row, len(value)) for row in value]):
        return False
    return all([len(row[0]) == len(value[0][0]) for row in value])


class Seller:
    """A purse, and for each standing its shares and the next standings."""

    def __init__(self, purse, rows):
        if not is_from_0(purse):
            raise BadSeller("purse")
        if not are_seller_rows(rows):
            raise BadSeller("rows")
        self.purse = fixed(purse)
        self.rows = fixed(rows)
        self.goods = len(rows[0][0])

    def __eq__(self, other):
        return isinstance(other, Seller) and self.purse == other.purse and self.rows == other.rows


def need_seller(seller):
    """A seller."""
    if not isinstance(seller, Seller):
        raise BadSeller("seller")


def has_at(seller, word):
    """What a seller has at a word; nothing is checked."""
    shares = []
    standing = 0
    for good in word:
        row, nexts = seller.rows[standing]
        shares.append(row[good])
        standing = nexts[good]
    return product_of([seller.purse, *shares])


def has(seller, word):
    """What a seller has at a word."""
    need_seller(seller)
    need_word(word, seller.goods, "word")
    return has_at(seller, word)


def lots_of(seller):
    """The tops of the shares of each standing, over one bottom for all, and this bottom."""
    tops, bottom = levelled([share for shares, _ in seller.rows for share in shares])
    goods = seller.goods
    return ([tops[at * goods:(at + 1) * goods] for at in range(len(seller.rows))], bottom)


def led_over(seller, market):
    """What is led to each standing by a market, as tops over one bottom, and this bottom."""
    lots, low = lots_of(seller)
    led_to, bottom = levelled([seller.purse, *([0] * (len(lots) - 1))])
    for day in market:
        numbers, under = levelled(day)
        onward = [0] * len(lots)
        for top, row, (_, nexts) in zip(led_to, lots, seller.rows):
            for lot, number, end in zip(row, numbers, nexts):
                onward[end] += top * lot * number
        led_to = onward
        bottom = bottom * low * under
    return (led_to, bottom)


def led(seller, market):
    """What a seller has that is led at a market."""
    need_seller(seller)
    need_market(market, seller.goods, "market")
    tops, bottom = led_over(seller, market)
    return over(sum(tops), bottom)


def amounts_of(seller, market):
    """What lies on each good for the day behind a market, if a seller is led there."""
    need_seller(seller)
    need_market(market, seller.goods, "market")
    tops, bottom = led_over(seller, market)
    lots, low = lots_of(seller)
    return tuple([over(sum([top * row[good] for top, row in zip(tops, lots)]), bottom * low)
                  for good in range(seller.goods)])
