"""Even purses, which keep a share of every mix and do not know how many days will come."""

from math import comb, factorial

from hindprice.errors import BadMix, BadNumber
from hindprice.exact import levelled, opposite, over, product_of, sum_of, sum_of_products
from hindprice.needs import MOST_DAYS, need_days, need_goods, need_market
from hindprice.shapes import MOST_GOODS, is_integers, is_list_within, is_mix_of
from hindprice.tables import counted_more
from hindprice.words import need_few_counts


def product_of_factorials(counts):
    """The product, over all goods, of the products of 1 to the good's count."""
    whole = 1
    for count in counts:
        whole = whole * factorial(count)
    return whole


def even_weight(counts):
    """The even weight of counts."""
    if not is_list_within(counts, 1, MOST_GOODS) or not is_integers(counts, 0, MOST_DAYS):
        raise BadNumber("counts")
    others = len(counts) - 1
    return over(factorial(others) * product_of_factorials(counts), factorial(sum(counts) + others))


def even_factor(goods, days):
    """The even factor of so many goods for so many days."""
    need_goods(goods)
    need_days(days)
    return factor_of(goods, days)


def factor_of(goods, days):
    """How many counts of so many goods there are for so many days."""
    return comb(days + goods - 1, goods - 1)


def weighed(goods, market):
    """For all counts the sum, over their words, of the words' weights: integers, and the bottom of all."""
    sums = {(0,) * goods: 1}
    bottom = 1
    for day in market:
        numbers, under = levelled(day)
        onward = {}
        for counts, top in sums.items():
            for good, number in enumerate(numbers):
                if number != 0:
                    more = counted_more(counts, good)
                    onward[more] = onward.get(more, 0) + top * number
        sums = onward
        bottom = bottom * under
    return (sums, bottom)


def need_purse(goods, market):
    """A number of goods, and a market of as many."""
    need_goods(goods)
    need_market(market, goods, "market")


def purse_of(goods, market):
    """The even purse behind a market; nothing is checked."""
    sums, bottom = weighed(goods, market)
    top = sum([weight * product_of_factorials(counts) for counts, weight in sums.items()])
    return over(factorial(goods - 1) * top, bottom * factorial(len(market) + goods - 1))


def even_purse(goods, market):
    """The even purse behind a market."""
    need_purse(goods, market)
    need_few_counts(goods, len(market))
    return purse_of(goods, market)


def even_amounts(goods, market):
    """What of the even purse lies on each good for the day behind a market."""
    need_purse(goods, market)
    need_few_counts(goods, len(market))
    sums, bottom = weighed(goods, market)
    tops = [0] * goods
    for counts, weight in sums.items():
        whole = weight * product_of_factorials(counts)
        for good, count in enumerate(counts):
            tops[good] += whole * (count + 1)
    bottom = bottom * factorial(len(market) + goods)
    return tuple([over(factorial(goods - 1) * top, bottom) for top in tops])


def even_spare(goods, market, shares):
    """The even purse times the even factor, less the worth of a mix, all at one market."""
    need_purse(goods, market)
    if not is_mix_of(shares, goods):
        raise BadMix("shares")
    need_few_counts(goods, len(market))
    kept = product_of([purse_of(goods, market), factor_of(goods, len(market))])
    return sum_of([kept, opposite(product_of([sum_of_products(shares, day) for day in market]))])
