"""What best mixes are worth and cost, told by counts alone."""

from math import comb

from hindprice.accounts import price_of
from hindprice.errors import BadNumber
from hindprice.exact import integer_power, over
from hindprice.needs import need_within
from hindprice.promises import MOST_COUNT, best_of
from hindprice.shapes import MOST_GOODS, is_integers, is_list_within
from hindprice.words import need_few_counts
from hindprice.worths import made_by_counts

MOST_PRICED_GOODS = 60
MOST_PRICED_DAYS = 250


def need_counts(counts):
    """Counts of 1 to 5 goods."""
    if not is_list_within(counts, 1, MOST_GOODS) or not is_integers(counts, 0, MOST_COUNT):
        raise BadNumber("counts")


def need_priced_days(days):
    """A number of days for which the price of a best mix is told."""
    need_within(days, 0, MOST_PRICED_DAYS, "days")


def best_worth(counts):
    """The worth of a best mix whose counts all together are these."""
    need_counts(counts)
    return made_by_counts(counts)


def price_tops(goods, days):
    """The prices for 1 good, 2, .. and so many, each as an integer over days to the days."""
    powers = [integer_power(count, count) for count in range(days + 1)]
    tops = [powers[days], sum([comb(days, count) * powers[count] * powers[days - count]
                               for count in range(days + 1)])]
    for fewer in range(1, goods - 1):
        # All of these are integers [12], so this division leaves nothing.
        tops.append(tops[-1] + days * tops[-2] // fewer)
    return tops[:goods]


def all_best(goods, days):
    """The prices of the best mixes of 1 to so many goods, without counts at first."""
    need_within(goods, 1, MOST_PRICED_GOODS, "goods")
    need_priced_days(days)
    bottom = integer_power(days, days)
    return tuple([over(top, bottom) for top in price_tops(goods, days)])


def best_price(goods, days):
    """The price of the best mix of so many goods, without counts at first."""
    return all_best(goods, days)[-1]


def best_rest(counts, days):
    """The price of the best mix with these counts at first."""
    need_counts(counts)
    need_priced_days(days)
    need_few_counts(len(counts), days)
    return price_of(best_of(counts), days)
