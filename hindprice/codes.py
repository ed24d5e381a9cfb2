"""Codes of words: how a promise tells to write texts."""

from hindprice.errors import BadCode, BadWord, Misfit
from hindprice.measures import Measure
from hindprice.needs import need_days
from hindprice.promises import need_promise
from hindprice.shapes import is_word_of
from hindprice.words import need_few_words, words_of


def need_coded(promise, days):
    """A promise, and a number of days."""
    need_promise(promise, "promise")
    need_days(days)


def need_signs(value, part):
    """A string of signs 0 and 1, perhaps of none."""
    if not isinstance(value, str) or not all([sign in ("0", "1") for sign in value]):
        raise BadCode(part)


def place_of(word, goods):
    """The place of a word among all of as many goods, ascending."""
    place = 0
    for good in word:
        place = place * goods + good
    return place


def code_of(promise, days, word):
    """The code of a word."""
    need_coded(promise, days)
    if not is_word_of(word, promise.goods) or len(word) != days:
        raise BadWord("word")
    need_few_words(promise.goods, days)
    measure = Measure(promise, days)
    place = place_of(word, promise.goods)
    if not measure.has_worth(place):
        raise Misfit("word")
    return measure.code(place)


def all_codes(measure, promise, days):
    """The pairs of word and code of all words that have one, ascending."""
    return [(word, measure.code(place)) for place, word in enumerate(words_of(promise.goods, days))
            if measure.has_worth(place)]


def codes_of(promise, days):
    """The pairs of word and code of all words that have one, ascending."""
    need_coded(promise, days)
    need_few_words(promise.goods, days)
    return tuple(all_codes(Measure(promise, days), promise, days))


def words_by_codes(promise, days):
    """The words that have codes, by these; there are some."""
    need_few_words(promise.goods, days)
    measure = Measure(promise, days)
    if measure.is_nothing():
        raise Misfit("promise")
    return {code: word for word, code in all_codes(measure, promise, days)}


def word_of(promise, days, code):
    """The word that has a code."""
    need_coded(promise, days)
    need_signs(code, "code")
    words = words_by_codes(promise, days)
    if code not in words:
        raise Misfit("code")
    return words[code]


def read_codes(promise, days, text):
    """The words whose codes stand one behind another in a text."""
    need_coded(promise, days)
    need_signs(text, "text")
    words = words_by_codes(promise, days)
    # No code begins another one, so the first one that is found is the right one.
    lengths = sorted(set([len(code) for code in words]))
    found = []
    at = 0
    while at < len(text):
        ends = [at + length for length in lengths if text[at:at + length] in words]
        if len(ends) == 0:
            raise Misfit("text")
        found.append(words[text[at:ends[0]]])
        at = ends[0]
    return tuple(found)
