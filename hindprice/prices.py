"""Prices and rests of promises, and what they are worth at all words."""

from hindprice.accounts import need_few, price_of
from hindprice.afters import left_behind_word
from hindprice.errors import BadPromise, Misfit
from hindprice.exact import over, sum_of
from hindprice.needs import need_days, need_word
from hindprice.promises import need_promise
from hindprice.strands import words_purse
from hindprice.tables import greatest_place, is_without_order, lesser_table, word_table
from hindprice.words import need_few_words, words_of


def need_priced(promise, days):
    """A promise, a number of days, and not too much to go through for its price."""
    need_promise(promise, "promise")
    need_days(days)
    need_few(promise, days)


def price(promise, days):
    """The price of a promise for so many days."""
    need_priced(promise, days)
    return price_of(promise, days)


def prices(promise, days):
    """The prices for 0, 1, .. and so many days."""
    need_priced(promise, days)
    return tuple([price_of(promise, fewer) for fewer in range(days + 1)])


def rest(promise, days, word):
    """The sum of the worths at all words of so many goods that begin with a word."""
    need_promise(promise, "promise")
    need_days(days)
    need_word(word, promise.goods, "word")
    if len(word) > days:
        raise Misfit("word")
    need_few(promise, days)
    return price_of(left_behind_word(promise, word), days - len(word))


def is_orderless(promise):
    """Whether no Then and no BestWalk is in a promise."""
    need_promise(promise, "promise")
    return is_without_order(promise)


def worth_in(table, place):
    """The worth that a table has at a place."""
    return sum_of([over(top, bottom) for top, bottom in table.pieces(place)])


def worths_of(promise, days):
    """The worths at all words of so many goods, in their order."""
    need_promise(promise, "promise")
    need_days(days)
    need_few_words(promise.goods, days)
    table = word_table(promise, days)
    return tuple([worth_in(table, place) for place in range(len(table.abouts))])


def richest(promise, days):
    """The first word of so many goods with the greatest worth, and this worth."""
    need_promise(promise, "promise")
    need_days(days)
    need_few_words(promise.goods, days)
    table = word_table(promise, days)
    place = greatest_place(table)
    return (words_of(promise.goods, days)[place], worth_in(table, place))


def shared(one, other, days):
    """The sum, over all words of so many goods, of the lesser one of two worths."""
    need_promise(one, "one")
    need_promise(other, "other")
    if other.goods != one.goods:
        raise BadPromise("other")
    need_days(days)
    need_few_words(one.goods, days)
    return words_purse(lesser_table(word_table(one, days), word_table(other, days)))
