"""Accounts of what is gone through: the worths at all words, or all counts, of the days that are left.

Behind some days each worth is the sum, over all words of these days, of the
word's weight times the worth at it and the place behind it. Worths are kept as
strands: a strand has a bottom, and a top for some of the places; a worth is the
sum of what all strands have for its place, over one more bottom, which is under.
Nothing is checked here.
"""

from hindprice.exact import levelled, over
from hindprice.tables import count_table, word_table
from hindprice.words import all_counts, ways


class Bottoms:
    """The bottoms of strands; common is one for all, and more so many times what each of them is."""

    def __init__(self, bottoms):
        self.more, self.common = levelled([(1, bottom) for bottom in bottoms])

    def top(self, tops):
        """The sum of integers, one over each bottom, over the one for all."""
        return sum([top * more for top, more in zip(tops, self.more)])

    def total(self, tops, under):
        """The same sum as a number, all of it over one more bottom."""
        return over(self.top(tops), self.common * under)


def strands_of(table, places):
    """For each bottom of a table's terms the places that have one over it, with its top."""
    strands = {}
    for at, place in enumerate(places):
        for top, bottom in table.terms(at):
            if top != 0:
                strand = strands.setdefault(bottom, {})
                strand[place] = strand.get(place, 0) + top
    return strands


class WordsAccount:
    """The worths at words, each told by its place among all of them, of which there are many."""

    def __init__(self, goods, many, strands, bottoms, under):
        self.goods = goods
        self.many = many
        self.strands = strands
        self.bottoms = bottoms
        self.under = under
        self.purse = None

    def whole(self):
        """The purse."""
        if self.purse is None:
            self.purse = self.bottoms.total([sum(list(strand.values())) for strand in self.strands], self.under)
        return self.purse

    def lying(self):
        """What lies on each good for the next day."""
        size = self.many // self.goods
        return [self.bottoms.total([begun_with(strand, size, good) for strand in self.strands], self.under)
                for good in range(self.goods)]

    def behind(self, day):
        """The account behind one more day."""
        numbers, under = levelled(day)
        size = self.many // self.goods
        strands = [words_behind(strand, size, numbers) for strand in self.strands]
        return WordsAccount(self.goods, size, strands, self.bottoms, self.under * under)


def begun_with(strand, size, good):
    """The sum of the tops of a strand at the words that begin with a good, of which there are so many."""
    return sum([top for place, top in strand.items() if place // size == good])


def words_behind(strand, size, numbers):
    """A strand behind a day with these numbers, over the day's bottom."""
    made = {}
    for place, top in strand.items():
        at = place % size
        made[at] = made.get(at, 0) + top * numbers[place // size]
    return made


class CountsAccount:
    """The same by counts: words with the same counts are worth the same."""

    def __init__(self, goods, days, strands, bottoms, under):
        self.goods = goods
        self.days = days
        self.strands = strands
        self.bottoms = bottoms
        self.under = under
        self.purse = None

    def _sum(self, many):
        """The sum of the worths, each so many times as is told for its counts."""
        tops = [sum([top * many[counts] for counts, top in strand.items()]) for strand in self.strands]
        return self.bottoms.total(tops, self.under)

    def whole(self):
        """The purse."""
        if self.purse is None:
            self.purse = self._sum(all_ways(self.goods, self.days))
        return self.purse

    def lying(self):
        """What lies on each good for the next day."""
        # Of the words with some counts, as large a part begins with a good as
        # its count is of all days.
        many = all_ways(self.goods, self.days)
        return [self._sum({counts: many[counts] * counts[good] // self.days for counts in many})
                for good in range(self.goods)]

    def behind(self, day):
        """The account behind one more day."""
        numbers, under = levelled(day)
        strands = [counts_behind(strand, numbers) for strand in self.strands]
        return CountsAccount(self.goods, self.days - 1, strands, self.bottoms, self.under * under)


def all_ways(goods, days):
    """How many words there are with each of the counts with the sum days."""
    return {counts: ways(counts) for counts in all_counts(goods, days)}


def counts_behind(strand, numbers):
    """A strand behind a day with these numbers, over the day's bottom."""
    made = {}
    for counts, top in strand.items():
        for good, number in enumerate(numbers):
            if counts[good] > 0:
                fewer = (*counts[:good], counts[good] - 1, *counts[good + 1:])
                made[fewer] = made.get(fewer, 0) + top * number
    return made


def words_account_of(table, goods):
    """The account of a table at all words of so many goods, ahead of all days."""
    many = len(table.abouts)
    strands = strands_of(table, list(range(many)))
    return WordsAccount(goods, many, list(strands.values()), Bottoms(list(strands)), 1)


def words_purse(table):
    """The sum of the worths of a table at all words."""
    return words_account_of(table, 1).whole()


def words_account(promise, days):
    """The account of any promise by all words, ahead of all days."""
    return words_account_of(word_table(promise, days), promise.goods)


def counts_account(promise, days):
    """The account of an orderless promise by all counts, ahead of all days."""
    strands = strands_of(count_table(promise, days), all_counts(promise.goods, days))
    return CountsAccount(promise.goods, days, list(strands.values()), Bottoms(list(strands)), 1)
