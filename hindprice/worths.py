"""What promises are worth at markets and at words."""

from hindprice.days import lightning_of
from hindprice.errors import BadMix, Misfit
from hindprice.exact import (
    greatest_of,
    integer_power,
    over,
    power_of,
    product_of,
    sum_of,
    sum_of_products,
)
from hindprice.needs import need_market, need_word
from hindprice.papers import fixed
from hindprice.promises import (
    BestMix,
    Greatest,
    Hold,
    Mix,
    Sum,
    Then,
    Times,
    all_in,
    need_promise,
    parts_in,
    times_of,
    with_parts,
)
from hindprice.shapes import is_list_within, is_mix_of
from hindprice.steps import walk_worth_of
from hindprice.words import counts_of


def bests_in(promise):
    """The best mixes in a promise, from the left."""
    return [part for part in all_in(promise) if isinstance(part, BestMix)]


def has_best(promise):
    """Whether a promise has a best mix."""
    need_promise(promise, "promise")
    return len(bests_in(promise)) > 0


def worth_by(promise, days, leaf):
    """The worth behind days, of which leaf tells that of promises without parts."""
    if isinstance(promise, Times):
        return product_of([promise.number, worth_by(promise.part, days, leaf)])
    if isinstance(promise, Then):
        first = worth_by(promise.first, days[:promise.days], leaf)
        return product_of([first, worth_by(promise.last, days[promise.days:], leaf)])
    if isinstance(promise, Sum):
        return sum_of([worth_by(part, days, leaf) for part in promise.parts])
    if isinstance(promise, Greatest):
        return greatest_of([worth_by(part, days, leaf) for part in promise.parts])
    return leaf(promise, days)


def leaf_worth(promise, market):
    """What a Hold, a Mix or a BestWalk is worth at a market."""
    if isinstance(promise, Hold):
        return product_of([day[promise.good] for day in market])
    if isinstance(promise, Mix):
        return product_of([sum_of_products(promise.shares, day) for day in market])
    return walk_worth_of(promise.machine, promise.weights, market)


def made_by_counts(counts):
    """What the best mix has made where the goods came so often."""
    made = 1
    for count in counts:
        made = made * integer_power(count, count)
    many = sum(counts)
    return over(made, integer_power(many, many))


def leaf_worth_at(promise, word):
    """What a promise without parts is worth at a word."""
    if isinstance(promise, BestMix):
        came = counts_of(promise.goods, word)
        return made_by_counts([count + more for count, more in zip(promise.counts, came)])
    return leaf_worth(promise, [lightning_of(promise.goods, good) for good in word])


def owed(promise, market):
    """The worth at a market; nothing is checked."""
    return worth_by(promise, market, leaf_worth)


def owed_at(promise, word):
    """The worth at a word; nothing is checked."""
    return worth_by(promise, word, leaf_worth_at)


def need_no_best(promise):
    """A promise that has no best mix."""
    if has_best(promise):
        raise Misfit("promise")


def worth(promise, market):
    """The worth of a promise at a market."""
    need_promise(promise, "promise")
    need_market(market, promise.goods, "market")
    need_no_best(promise)
    return owed(promise, market)


def worth_at(promise, word):
    """The worth of a promise at a word."""
    need_promise(promise, "promise")
    need_word(word, promise.goods, "word")
    return owed_at(promise, word)


def named(promise, mixes):
    """The promise with a mix in the place of each of its best mixes, from the left."""
    need_promise(promise, "promise")
    many = len(bests_in(promise))
    if not is_list_within(mixes, many, many):
        raise BadMix("mixes")
    if not all([is_mix_of(mix, promise.goods) for mix in mixes]):
        raise BadMix("mixes")
    return named_by(promise, list(fixed(mixes)[::-1]))


def named_by(promise, waiting):
    """The promise named by mixes, which are taken from the end of a list."""
    if isinstance(promise, BestMix):
        mix = waiting.pop()
        counted = [power_of(share, count) for share, count in zip(mix, promise.counts)]
        return times_of(product_of(counted), Mix(mix))
    return with_parts(promise, [named_by(part, waiting) for part in parts_in(promise)])
