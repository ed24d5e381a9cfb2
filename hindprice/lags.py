"""Lengths of codes, which lag somewhere behind the worths of a promise."""

from hindprice.codes import need_coded, place_of
from hindprice.errors import BadCode, Misfit
from hindprice.measures import Measure
from hindprice.papers import Paper
from hindprice.shapes import is_integers, is_word_of
from hindprice.words import need_few_words, words_of

MOST_LENGTH = 1000


class Lag(Paper):
    """A word at which lengths lag."""

    def __init__(self, course):
        Paper.__init__(self, "lag", course)
        self.course = self.parts[0]


def need_lengths(promise, days, lengths):
    """A length for each word."""
    if not is_integers(lengths, 0, MOST_LENGTH) or len(lengths) != integer_words(promise.goods, days):
        raise BadCode("lengths")


def integer_words(goods, days):
    """How many words there are."""
    many = 1
    for _ in range(days):
        many = many * goods
    return many


def measured(promise, days, lengths):
    """The worths of a promise, if lengths of all words fit to them."""
    need_coded(promise, days)
    need_few_words(promise.goods, days)
    need_lengths(promise, days, lengths)
    measure = Measure(promise, days)
    if measure.is_nothing():
        raise Misfit("promise")
    if sum([1 << (MOST_LENGTH - length) for length in lengths]) > 1 << MOST_LENGTH:
        raise Misfit("lengths")
    return measure


def lag(promise, days, lengths):
    """The Lag of the first word at which lengths lag."""
    measure = measured(promise, days, lengths)
    # Such lengths always lag at some word [15].
    place = 0
    while not measure.lags(place, lengths[place]):
        place += 1
    return Lag(words_of(promise.goods, days)[place])


def shows_lag(promise, days, lengths, value):
    """Whether any value is the Lag of a word at which lengths lag."""
    measure = measured(promise, days, lengths)
    if not isinstance(value, Lag) or value.__class__.__name__ != "Lag":
        return False
    if not is_word_of(value.course, promise.goods) or len(value.course) != days:
        return False
    place = place_of(value.course, promise.goods)
    return measure.lags(place, lengths[place])
