"""What is left of promises behind days, goods and words."""

from hindprice.days import lightning_of
from hindprice.exact import product_of, sum_of_products
from hindprice.needs import need_day, need_within, need_word
from hindprice.promises import (
    BestMix,
    BestWalk,
    Hold,
    Mix,
    Then,
    Times,
    best_of,
    need_promise,
    parts_in,
    then_of,
    times_of,
    with_parts,
)
from hindprice.steps import weights_behind
from hindprice.worths import need_no_best


def scaled(number, promise):
    """So many times a promise, on no more levels than it needs."""
    if isinstance(promise, Times):
        return scaled(product_of([number, promise.number]), promise.part)
    if number == 1:
        return promise
    return times_of(number, promise)


def left_behind(promise, day):
    """What is left behind a day; only lightnings come to what has a best mix."""
    if isinstance(promise, Hold):
        return scaled(day[promise.good], promise)
    if isinstance(promise, Mix):
        return scaled(sum_of_products(promise.shares, day), promise)
    if isinstance(promise, Times):
        return scaled(promise.number, left_behind(promise.part, day))
    if isinstance(promise, Then):
        if promise.days == 0:
            return then_of(0, promise.first, left_behind(promise.last, day))
        return then_of(promise.days - 1, left_behind(promise.first, day), promise.last)
    if isinstance(promise, BestWalk):
        return BestWalk(promise.machine, weights_behind(promise.machine, promise.weights, day))
    if isinstance(promise, BestMix):
        # The lightning of a good counts just this good once more.
        return best_of([count + more for count, more in zip(promise.counts, day)])
    return with_parts(promise, [left_behind(part, day) for part in parts_in(promise)])


def left_behind_word(promise, word):
    """What is left behind the goods of a word; nothing is checked."""
    for good in word:
        promise = left_behind(promise, lightning_of(promise.goods, good))
    return promise


def after_day(promise, day):
    """What is left of a promise behind a day."""
    need_promise(promise, "promise")
    need_day(day, promise.goods, "day")
    need_no_best(promise)
    return left_behind(promise, day)


def after_good(promise, good):
    """What is left of a promise behind a good."""
    need_promise(promise, "promise")
    need_within(good, 0, promise.goods - 1, "good")
    return left_behind_word(promise, (good,))


def after_word(promise, word):
    """What is left of a promise behind a word."""
    need_promise(promise, "promise")
    need_word(word, promise.goods, "word")
    return left_behind_word(promise, word)
