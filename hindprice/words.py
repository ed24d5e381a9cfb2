"""Words, their weights, and counts."""

from math import comb

from hindprice.errors import BadMarket, BadNumber, Misfit, TooMany
from hindprice.exact import product_of
from hindprice.needs import MOST_DAYS, need_days, need_goods, need_word
from hindprice.shapes import MOST_GOODS, is_any_market, is_integers, is_list_within

MOST_WORDS = 4096
MOST_COUNTS = 5000


def need_few_words(goods, days):
    """There may not be more words of so many goods than are gone through."""
    many = 1
    for _ in range(days):
        many = many * goods
        if many > MOST_WORDS:
            raise TooMany("words", MOST_WORDS)


def need_few_counts(goods, days):
    """There may not be more counts with this sum than are gone through."""
    if comb(days + goods - 1, goods - 1) > MOST_COUNTS:
        raise TooMany("counts", MOST_COUNTS)


def words_of(goods, days):
    """All words of so many goods as there are days, ascending."""
    need_goods(goods)
    need_days(days)
    need_few_words(goods, days)
    words = [()]
    for _ in range(days):
        words = [(*word, good) for word in words for good in range(goods)]
    return tuple(words)


def weight_of(market, word):
    """The product of the days' numbers for the word's goods, day by day."""
    if not is_any_market(market):
        raise BadMarket("market")
    need_word(word, len(market[0]) if len(market) > 0 else MOST_GOODS, "word")
    if len(word) != len(market):
        raise Misfit("word")
    return product_of([day[good] for day, good in zip(market, word)])


def counts_of(goods, word):
    """How often each good comes in a word."""
    need_goods(goods)
    need_word(word, goods, "word")
    counts = [0] * goods
    for good in word:
        counts[good] += 1
    return tuple(counts)


def counts_with(goods, days):
    """All counts of so many goods with the sum days, ascending; nothing is checked."""
    begun = [((), days)]
    for _ in range(goods - 1):
        begun = [((*counts, count), left - count)
                 for counts, left in begun for count in range(left + 1)]
    return tuple([(*counts, left) for counts, left in begun])


def all_counts(goods, days):
    """All counts of so many goods with the sum days, ascending."""
    need_goods(goods)
    need_days(days)
    need_few_counts(goods, days)
    return counts_with(goods, days)


def ways(counts):
    """How many words have these counts."""
    if not is_list_within(counts, 1, MOST_GOODS) or not is_integers(counts, 0, MOST_DAYS):
        raise BadNumber("counts")
    if sum(counts) > MOST_DAYS:
        raise BadNumber("counts")
    many = 1
    placed = 0
    for count in counts:
        placed += count
        many = many * comb(placed, count)
    return many
