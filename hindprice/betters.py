"""Mixes at a market: which one is best, and which one is better than another one."""

from hindprice.abouts import NOTHING, about, about_product, about_sum, at_least_times
from hindprice.errors import Misfit
from hindprice.exact import (
    bottom_of,
    greatest_of,
    is_less,
    levelled,
    over,
    product_of,
    ratio,
    sum_of,
    top_of,
)
from hindprice.needs import need_any_mix, need_market, need_within
from hindprice.papers import Denial, Paper
from hindprice.shapes import is_mix_of

MOST_HALVINGS = 60


class Best(Paper):
    """A mix is best at a market."""

    def __init__(self):
        Paper.__init__(self, "best")


class Outdone(Denial):
    """The shares of a mix that outdoes another one at a market."""

    def __init__(self, shares):
        Denial.__init__(self, "outdone", shares)
        self.shares = self.parts[0]


def pays_by(shares, days):
    """What integers for the goods are paid on days that are rows of integers."""
    return [sum([share * number for share, number in zip(shares, day)]) for day in days]


def tops_of_days(market):
    """The tops of each day, over one bottom for all its goods: only how they stand to one another is told."""
    return [levelled(day)[0] for day in market]


def need_paying(shares, market):
    """A mix, and a market whose days all pay it above 0."""
    need_any_mix(shares, "shares")
    need_market(market, len(shares), "market")
    if 0 in pays_by(levelled(shares)[0], tops_of_days(market)):
        raise Misfit("market")


def ratios_of(shares, market):
    """For each good what each day has for it, divided by what the day pays the mix."""
    tops, bottom = levelled(shares)
    days = tops_of_days(market)
    pays = pays_by(tops, days)
    return [[over(day[good] * bottom, pay) for day, pay in zip(days, pays)] for good in range(len(tops))]


def mean_of(numbers):
    """The mean of some numbers, 1 if there are none."""
    if len(numbers) == 0:
        return 1
    return ratio(sum_of(numbers), len(numbers))


def all_means(shares, market):
    """The means of the goods; nothing is checked."""
    return tuple([mean_of(numbers) for numbers in ratios_of(shares, market)])


def means_of(shares, market):
    """The means of the goods."""
    need_paying(shares, market)
    return all_means(shares, market)


def bettered(shares, market):
    """The mix that has of each good the share times the good's mean."""
    need_paying(shares, market)
    return tuple([product_of([share, mean]) for share, mean in zip(shares, all_means(shares, market))])


def within_factor(shares, market):
    """The greatest mean."""
    need_paying(shares, market)
    return greatest_of(all_means(shares, market))


def squares_of(numbers):
    """The about of the sum of the squares of some numbers."""
    whole = NOTHING
    for number in numbers:
        near = about(abs(top_of(number)), bottom_of(number))
        whole = about_sum(whole, about_product(near, near))
    return whole


def enough_parts(numbers, mean):
    """So many parts that a mix with one of them laid on a good has more worth.

    The numbers are what the days have for the good, divided by what they pay
    the mix; a is what each of them is above 1, and the sum of all a is above 0.
    With the part e for the good the worth is the product of all 1 + e a times
    as much. As e is at most a half, and no a is below -1, the logarithm of
    each is at least e a - e a e a; so e may be the sum of all a, divided by
    twice that of their squares.
    """
    squares = squares_of([sum_of([number, -1]) for number in numbers])
    more = product_of([len(numbers), sum_of([mean, -1])])
    return max(2, at_least_times(about_product((2, 0), squares), about(top_of(more), bottom_of(more))))


def judged_mix(shares, market):
    """Best, or the Outdone of a mix that has more of the first good with the greatest mean."""
    need_paying(shares, market)
    means = all_means(shares, market)
    good = list(means).index(greatest_of(means))
    if not is_less(1, means[good]):
        return Best()
    parts = enough_parts(ratios_of(shares, market)[good], means[good])
    less = [ratio(product_of([share, parts - 1]), parts) for share in shares]
    less[good] = sum_of([less[good], (1, parts)])
    return Outdone(less)


def outdoes(other, shares, market):
    """Whether another mix has a greater worth at a market."""
    days = tops_of_days(market)
    tops, bottom = levelled(shares)
    others, low = levelled(other)
    here = bottom_made(low, len(days), pays_by(tops, days))
    return here < bottom_made(bottom, len(days), pays_by(others, days))


def bottom_made(bottom, many, pays):
    """The product of integers, and of the bottom that the other side has, so many times."""
    return product_of([*pays, *([bottom] * many)])


def shows_mix(shares, market, value):
    """Whether any value is a right Best, or a right Outdone, for a mix at a market."""
    need_paying(shares, market)
    if isinstance(value, Best) and value.__class__.__name__ == "Best":
        return not is_less(1, greatest_of(all_means(shares, market)))
    if isinstance(value, Outdone) and value.__class__.__name__ == "Outdone":
        return is_mix_of(value.shares, len(shares)) and outdoes(value.shares, shares, market)
    return False


def slope_at(share, days):
    """The sum that tells whether the worth rises at a share of good 0, or falls."""
    top = top_of(share)
    bottom = bottom_of(share)
    pays = pays_by((top, bottom - top), days)
    return sum_of([over(one - other, pay) for (one, other), pay in zip(days, pays)])


def best_stretch(market, times):
    """The best stretch of a market of two goods, halved at most so many times."""
    need_market(market, 2, "market")
    need_within(times, 0, MOST_HALVINGS, "times")
    if (0, 0) in [tuple(day) for day in market]:
        raise Misfit("market")
    days = tops_of_days(market)
    low = 0
    high = 1
    for _ in range(times):
        middle = ratio(sum_of([low, high]), 2)
        slope = slope_at(middle, days)
        if slope == 0:
            return (middle, middle)
        if is_less(0, slope):
            low = middle
        else:
            high = middle
    return (low, high)
