"""Accounts of what is gone through: the worths at all words, or all counts, of the days that are left.

Behind some days each worth is the sum, over all words of these days, of the
word's weight times the worth at it and the place behind it. Worths are kept as
strands: a strand has a bottom, and a top for some of the places; a worth is the
sum of what all strands have for its place, over the bottoms of the days that came.
Nothing is checked here.
"""

from math import gcd

from hindprice.exact import levelled, over_by
from hindprice.tables import count_table, word_table
from hindprice.words import all_counts, ways


class Bottoms:
    """The bottoms of strands, and one for all of them: it is found two by two, and so are sums over it.

    A level tells for each two of what is left by the level ahead, in order, how
    many times each of both is to be taken; one that is over is left as it is.
    """

    def __init__(self, bottoms, bases):
        self.bottoms = bottoms
        self.primes = bases
        self.levels = []
        row = [1, *bottoms]
        while len(row) > 1:
            level = [times_to_common(row[at], row[at + 1]) for at in range(0, len(row) - 1, 2)]
            self.levels.append(level)
            row = [*[row[2 * at] * times for at, (times, _) in enumerate(level)], *row[2 * len(level):]]
        self.common = row[0]

    def of_some(self, places):
        """The bottoms at some places alone."""
        return Bottoms([self.bottoms[place] for place in places], self.primes)

    def sum_of_tops(self, tops):
        """The sum of integers, one over each bottom, over the one for all."""
        row = [0, *tops]
        for level in self.levels:
            row = [*[row[2 * at] * times + row[2 * at + 1] * more for at, (times, more) in enumerate(level)],
                   *row[2 * len(level):]]
        return row[0]

    def number_over(self, top, days):
        """An integer over the bottom for all and over those of some days."""
        bottom = self.common
        for under in days:
            bottom = bottom * under
        return over_by(top, bottom, [*self.primes, *days])


def times_to_common(one, other):
    """How many times two bottoms are to be taken for one that both have in common."""
    shared = gcd(one, other)
    return (other // shared, one // shared)


def without_primes(number, other):
    """What is left of an integer if each prime of another one is cut out of it."""
    shared = gcd(number, other)
    while shared > 1:
        number = number // shared
        shared = gcd(number, shared)
    return number


def unlike_bases(bases):
    """Integers that have the same primes, each of them once: all of these are soon gone through."""
    found = []
    for base in sorted(set(bases)):
        for other in found:
            base = without_primes(base, other)
        if base > 1:
            found.append(base)
    return found


def bottoms_of(strands, table):
    """The bottoms of the strands of a table."""
    return Bottoms(list(strands), unlike_bases(table.bases()))


def lasting(strands, bottoms):
    """The strands in which anything is left, and their bottoms: what is over the others would be cut out again."""
    left = [at for at, strand in enumerate(strands) if len(strand) > 0]
    if len(left) == len(strands):
        return (strands, bottoms)
    return ([strands[at] for at in left], bottoms.of_some(left))


def strands_of(table, places):
    """For each bottom of a table's terms the places that have one over it, with its top."""
    strands = {}
    for at, place in enumerate(places):
        for top, bottom in table.terms(at):
            if top != 0:
                strand = strands.setdefault(bottom, {})
                strand[place] = strand.get(place, 0) + top
    return strands


class WordsAccount:
    """The worths at words, each told by its place among all of them, of which there are many."""

    def __init__(self, goods, many, strands, bottoms, days):
        self.goods = goods
        self.many = many
        self.strands = strands
        self.bottoms = bottoms
        self.days = days
        self.purse = None

    def whole(self):
        """The purse."""
        if self.purse is None:
            top = self.bottoms.sum_of_tops([sum(list(strand.values())) for strand in self.strands])
            self.purse = self.bottoms.number_over(top, self.days)
        return self.purse

    def lying(self):
        """What lies on each good for the next day."""
        size = self.many // self.goods
        tops = [self.bottoms.sum_of_tops([begun_with(strand, size, good) for strand in self.strands])
                for good in range(self.goods)]
        self.purse = self.bottoms.number_over(sum(tops), self.days)
        return [self.bottoms.number_over(top, self.days) for top in tops]

    def behind(self, day):
        """The account behind one more day."""
        numbers, under = levelled(day)
        size = self.many // self.goods
        strands, bottoms = lasting([words_behind(strand, size, numbers) for strand in self.strands], self.bottoms)
        return WordsAccount(self.goods, size, strands, bottoms, [*self.days, under])


def begun_with(strand, size, good):
    """The sum of the tops of a strand at the words that begin with a good, of which there are so many."""
    return sum([top for place, top in strand.items() if place // size == good])


def words_behind(strand, size, numbers):
    """A strand behind a day with these numbers, over the day's bottom."""
    made = {}
    for place, top in strand.items():
        number = numbers[place // size]
        if number != 0:
            at = place % size
            made[at] = made.get(at, 0) + top * number
    return made


class CountsAccount:
    """The same by counts: words with the same counts are worth the same."""

    def __init__(self, goods, left, strands, bottoms, days):
        self.goods = goods
        self.left = left
        self.strands = strands
        self.bottoms = bottoms
        self.days = days
        self.purse = None

    def _top(self, many):
        """The sum of the worths, each so many times as is told for its counts, over the bottom for all."""
        return self.bottoms.sum_of_tops([sum([top * many[counts] for counts, top in strand.items()])
                                 for strand in self.strands])

    def whole(self):
        """The purse."""
        if self.purse is None:
            self.purse = self.bottoms.number_over(self._top(all_ways(self.goods, self.left)), self.days)
        return self.purse

    def lying(self):
        """What lies on each good for the next day."""
        # Of the words with some counts, as large a part begins with a good as
        # its count is of all days.
        many = all_ways(self.goods, self.left)
        tops = [self._top({counts: many[counts] * counts[good] // self.left for counts in many})
                for good in range(self.goods)]
        self.purse = self.bottoms.number_over(sum(tops), self.days)
        return [self.bottoms.number_over(top, self.days) for top in tops]

    def behind(self, day):
        """The account behind one more day."""
        numbers, under = levelled(day)
        strands, bottoms = lasting([counts_behind(strand, numbers) for strand in self.strands], self.bottoms)
        return CountsAccount(self.goods, self.left - 1, strands, bottoms, [*self.days, under])


def all_ways(goods, days):
    """How many words there are with each of the counts with the sum days."""
    return {counts: ways(counts) for counts in all_counts(goods, days)}


def counts_behind(strand, numbers):
    """A strand behind a day with these numbers, over the day's bottom."""
    made = {}
    for counts, top in strand.items():
        for good, number in enumerate(numbers):
            if counts[good] > 0 and number != 0:
                fewer = (*counts[:good], counts[good] - 1, *counts[good + 1:])
                made[fewer] = made.get(fewer, 0) + top * number
    return made


def words_account_of(table, goods):
    """The account of a table at all words of so many goods, ahead of all days."""
    many = len(table.abouts)
    strands = strands_of(table, list(range(many)))
    return WordsAccount(goods, many, list(strands.values()), bottoms_of(strands, table), [])


def words_purse(table):
    """The sum of the worths of a table at all words."""
    return words_account_of(table, 1).whole()


def words_account(promise, days):
    """The account of any promise by all words, ahead of all days."""
    return words_account_of(word_table(promise, days), promise.goods)


def counts_account(promise, days):
    """The account of an orderless promise by all counts, ahead of all days."""
    table = count_table(promise, days)
    strands = strands_of(table, all_counts(promise.goods, days))
    return CountsAccount(promise.goods, days, list(strands.values()), bottoms_of(strands, table), [])
