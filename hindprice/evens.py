"""Even purses, which keep a share of every mix and do not know how many days will come."""

from math import comb, factorial

from hindprice.errors import BadMix, BadNumber
from hindprice.exact import integer_power, levelled, opposite, over, product_of, sum_of, sum_of_products
from hindprice.needs import MOST_DAYS, need_days, need_goods, need_market
from hindprice.shapes import MOST_GOODS, is_integers, is_list_within, is_mix_of
from hindprice.words import counts_with, need_few_counts


def product_of_factorials(counts):
    """The product, over all goods, of the products of 1 to the good's count."""
    whole = 1
    for count in counts:
        whole = whole * factorial(count)
    return whole


def even_weight(counts):
    """The even weight of counts."""
    if not is_list_within(counts, 1, MOST_GOODS) or not is_integers(counts, 0, MOST_DAYS):
        raise BadNumber("counts")
    others = len(counts) - 1
    return over(factorial(others) * product_of_factorials(counts), factorial(sum(counts) + others))


def even_factor(goods, days):
    """The even factor of so many goods for so many days."""
    need_goods(goods)
    need_days(days)
    return factor_of(goods, days)


def factor_of(goods, days):
    """How many counts of so many goods there are for so many days."""
    return comb(days + goods - 1, goods - 1)


def days_in(market):
    """How often each day comes in a market; it is told by integers, and what all of them are over."""
    days = {}
    for day in market:
        numbers, under = levelled(day)
        told = (tuple(numbers), under)
        days[told] = days.get(told, 0) + 1
    return days


def written(counts, base):
    """Counts, all below a base, as one integer: those of words behind one another are added as such."""
    whole = 0
    for count in counts:
        whole = whole * base + count
    return whole


def counts_in(whole, goods, base):
    """The counts that are written as an integer."""
    counts = []
    for _ in range(goods):
        whole, count = divmod(whole, base)
        counts.append(count)
    return tuple(counts[::-1])


def weighed_alike(numbers, many, base):
    """For counts, as they are written, the sum of their words' weights by so many days with these numbers."""
    sums = {}
    for counts in counts_with(len(numbers), many):
        top = 1
        placed = 0
        for number, count in zip(numbers, counts):
            placed += count
            top = top * comb(placed, count) * integer_power(number, count)
        if top != 0:
            sums[written(counts, base)] = top
    return sums


def weighed_together(sums, others):
    """The same by some days and by others behind them."""
    both = {}
    for whole, top in sums.items():
        for more, times in others.items():
            both[whole + more] = both.get(whole + more, 0) + top * times
    return both


def weighed(goods, market):
    """For all counts the sum, over their words, of the words' weights: integers, and the bottom of all."""
    base = len(market) + 1
    sums = {0: 1}
    bottom = 1
    for (numbers, under), many in days_in(market).items():
        sums = weighed_together(sums, weighed_alike(numbers, many, base))
        bottom = bottom * integer_power(under, many)
    return ({counts_in(whole, goods, base): top for whole, top in sums.items()}, bottom)


def factorials(many):
    """The products of the integers from 1 to n, for each n up to so many."""
    row = [1]
    for number in range(1, many + 1):
        row.append(row[-1] * number)
    return row


def weights_by_factorials(sums, many):
    """Each sum, of so many days, times the products of 1 to each of its counts."""
    row = factorials(many)
    weights = {}
    for counts, top in sums.items():
        for count in counts:
            top = top * row[count]
        weights[counts] = top
    return weights


def need_purse(goods, market):
    """A number of goods, and a market of as many."""
    need_goods(goods)
    need_market(market, goods, "market")


def purse_of(goods, market):
    """The even purse behind a market; nothing is checked."""
    sums, bottom = weighed(goods, market)
    weights = weights_by_factorials(sums, len(market))
    return over(factorial(goods - 1) * sum(list(weights.values())), bottom * factorial(len(market) + goods - 1))


def even_purse(goods, market):
    """The even purse behind a market."""
    need_purse(goods, market)
    need_few_counts(goods, len(market))
    return purse_of(goods, market)


def even_amounts(goods, market):
    """What of the even purse lies on each good for the day behind a market."""
    need_purse(goods, market)
    need_few_counts(goods, len(market))
    sums, bottom = weighed(goods, market)
    tops = [0] * goods
    for counts, weight in weights_by_factorials(sums, len(market)).items():
        for good, count in enumerate(counts):
            tops[good] += weight * (count + 1)
    bottom = bottom * factorial(len(market) + goods)
    return tuple([over(factorial(goods - 1) * top, bottom) for top in tops])


def even_spare(goods, market, shares):
    """The even purse times the even factor, less the worth of a mix, all at one market."""
    need_purse(goods, market)
    if not is_mix_of(shares, goods):
        raise BadMix("shares")
    need_few_counts(goods, len(market))
    kept = product_of([purse_of(goods, market), factor_of(goods, len(market))])
    return sum_of([kept, opposite(product_of([sum_of_products(shares, day) for day in market]))])
