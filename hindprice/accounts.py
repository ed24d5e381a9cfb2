"""Accounts: the purse of a promise behind the days that came, and where it lies next.

Nothing is checked here but how much is gone through. An account does not
change: each day leads on to another one.
"""

from hindprice.days import lightning_of
from hindprice.exact import levelled, product_of, sum_of, sum_of_products
from hindprice.promises import Hold, Mix, Sum, Then, Times
from hindprice.tables import count_table, counted_more, is_without_order, word_table
from hindprice.words import all_counts, need_few_counts, need_few_words, ways


def need_few(promise, days):
    """There may not be more to go through for the price of a promise than is gone through."""
    if isinstance(promise, Times):
        need_few(promise.part, days)
    elif isinstance(promise, Sum):
        for part in promise.parts:
            need_few(part, days)
    elif isinstance(promise, Then):
        need_few(promise.first, min(days, promise.days))
        need_few(promise.last, days - min(days, promise.days))
    elif is_without_order(promise) and not isinstance(promise, (Hold, Mix)):
        need_few_counts(promise.goods, days)
    elif not isinstance(promise, (Hold, Mix)):
        need_few_words(promise.goods, days)


class MixAccount:
    """That of a Mix, or of a Hold, whose shares are those of a lightning."""

    def __init__(self, shares, purse):
        self.shares = shares
        self.purse = purse

    def lying(self):
        """What lies on each good for the next day."""
        return [product_of([self.purse, share]) for share in self.shares]

    def behind(self, day):
        """The account behind one more day."""
        return MixAccount(self.shares, product_of([self.purse, sum_of_products(self.shares, day)]))


class TimesAccount:
    """So many times an account."""

    def __init__(self, number, part):
        self.number = number
        self.part = part
        self.purse = product_of([number, part.purse])

    def lying(self):
        """What lies on each good for the next day."""
        return [product_of([self.number, number]) for number in self.part.lying()]

    def behind(self, day):
        """The account behind one more day."""
        return TimesAccount(self.number, self.part.behind(day))


class SumAccount:
    """Some accounts together."""

    def __init__(self, parts):
        self.parts = parts
        self.purse = sum_of([part.purse for part in parts])

    def lying(self):
        """What lies on each good for the next day."""
        rows = [part.lying() for part in self.parts]
        return [sum_of(list(numbers)) for numbers in zip(*rows)]

    def behind(self, day):
        """The account behind one more day."""
        return SumAccount([part.behind(day) for part in self.parts])


class ThenAccount:
    """One account for so many days, times another one for the days behind them."""

    def __init__(self, days, first, last):
        self.days = days
        self.first = first
        self.last = last
        self.purse = product_of([first.purse, last.purse])

    def lying(self):
        """What lies on each good for the next day."""
        if self.days > 0:
            return [product_of([number, self.last.purse]) for number in self.first.lying()]
        return [product_of([number, self.first.purse]) for number in self.last.lying()]

    def behind(self, day):
        """The account behind one more day."""
        if self.days > 0:
            return ThenAccount(self.days - 1, self.first.behind(day), self.last)
        return ThenAccount(0, self.first, self.last.behind(day))


class WordsAccount:
    """The worths at the words of the days that are left, ascending.

    Each worth is the sum, over all words of the days that came, of the word's
    weight times the worth at it and the word of the days that are left.
    """

    def __init__(self, goods, table):
        self.goods = goods
        self.table = table
        self.purse = sum_of(table)

    def lying(self):
        """What lies on each good for the next day."""
        return [sum_of(pairs) for pairs in by_goods(self.table, self.goods)]

    def behind(self, day):
        """The account behind one more day."""
        tops, bottom = levelled(self.table)
        numbers, under = levelled(day)
        rows = by_goods(tops, self.goods)
        made = [in_all(column, numbers) for column in zip(*rows)]
        return WordsAccount(self.goods, over_all(made, bottom * under))


class CountsAccount:
    """The same as WordsAccount by counts: words with the same counts are worth the same."""

    def __init__(self, goods, days, table):
        self.goods = goods
        self.days = days
        self.table = table
        self.places = all_counts(goods, days)
        self.ways = [ways(counts) for counts in self.places]
        self.purse = sum_of_so_many(table, self.ways)

    def lying(self):
        """What lies on each good for the next day."""
        # Of the words with some counts, as large a part begins with a good as
        # its count is of all days.
        begun = [[many * counts[good] // self.days for many, counts in zip(self.ways, self.places)]
                 for good in range(self.goods)]
        return [sum_of_so_many(self.table, row) for row in begun]

    def behind(self, day):
        """The account behind one more day."""
        tops, bottom = levelled(self.table)
        numbers, under = levelled(day)
        known = {}
        for counts, top in zip(self.places, tops):
            known[counts] = top
        made = [in_all([known[counted_more(counts, good)] for good in range(self.goods)], numbers)
                for counts in all_counts(self.goods, self.days - 1)]
        return CountsAccount(self.goods, self.days - 1, over_all(made, bottom * under))


def in_all(tops, numbers):
    """The sum of integers, each times its number."""
    return sum([top * number for top, number in zip(tops, numbers)])


def sum_of_so_many(table, many):
    """The sum of the pairs of a table, each so many times."""
    return sum_of([(top * times, bottom) for (top, bottom), times in zip(table, many)])


def over_all(tops, bottom):
    """The table of integers over one bottom."""
    return [(top, bottom) for top in tops]


def by_goods(items, goods):
    """What there is for each word, good by good of the first ones of the words."""
    size = len(items) // goods
    return [items[good * size:(good + 1) * size] for good in range(goods)]


def account_of(promise, days):
    """The account of a promise for so many days, ahead of them."""
    if isinstance(promise, Hold):
        return MixAccount(lightning_of(promise.goods, promise.good), 1)
    if isinstance(promise, Mix):
        return MixAccount(promise.shares, 1)
    if isinstance(promise, Times):
        return TimesAccount(promise.number, account_of(promise.part, days))
    if isinstance(promise, Sum):
        return SumAccount([account_of(part, days) for part in promise.parts])
    if isinstance(promise, Then):
        ahead = min(days, promise.days)
        first = account_of(promise.first, ahead)
        return ThenAccount(ahead, first, account_of(promise.last, days - ahead))
    if is_without_order(promise):
        return CountsAccount(promise.goods, days, count_table(promise, days))
    return WordsAccount(promise.goods, word_table(promise, days))


def price_of(promise, days):
    """The price of a promise for so many days."""
    return account_of(promise, days).purse
