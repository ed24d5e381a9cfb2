"""Accounts: the purse of a promise behind the days that came, and where it lies next.

Nothing is checked here but how much is gone through. An account does not
change: each day leads on to another one.
"""

from hindprice.days import lightning_of
from hindprice.exact import product_of, sum_of, sum_of_products
from hindprice.promises import Hold, Mix, Sum, Then, Times
from hindprice.tables import is_without_order
from hindprice.strands import counts_account, words_account
from hindprice.words import need_few_counts, need_few_words


def need_few(promise, days):
    """There may not be more to go through for the price of a promise than is gone through."""
    if isinstance(promise, Times):
        need_few(promise.part, days)
    elif isinstance(promise, Sum):
        for part in promise.parts:
            need_few(part, days)
    elif isinstance(promise, Then):
        need_few(promise.first, min(days, promise.days))
        need_few(promise.last, days - min(days, promise.days))
    elif is_without_order(promise) and not isinstance(promise, (Hold, Mix)):
        need_few_counts(promise.goods, days)
    elif not isinstance(promise, (Hold, Mix)):
        need_few_words(promise.goods, days)


class MixAccount:
    """That of a Mix, or of a Hold, whose shares are those of a lightning."""

    def __init__(self, shares, purse):
        self.shares = shares
        self.purse = purse

    def whole(self):
        """The purse."""
        return self.purse

    def lying(self):
        """What lies on each good for the next day."""
        return [product_of([self.purse, share]) for share in self.shares]

    def behind(self, day):
        """The account behind one more day."""
        return MixAccount(self.shares, product_of([self.purse, sum_of_products(self.shares, day)]))


class TimesAccount:
    """So many times an account."""

    def __init__(self, number, part):
        self.number = number
        self.part = part

    def whole(self):
        """The purse."""
        return product_of([self.number, self.part.whole()])

    def lying(self):
        """What lies on each good for the next day."""
        return [product_of([self.number, number]) for number in self.part.lying()]

    def behind(self, day):
        """The account behind one more day."""
        return TimesAccount(self.number, self.part.behind(day))


class SumAccount:
    """Some accounts together."""

    def __init__(self, parts):
        self.parts = parts

    def whole(self):
        """The purse."""
        return sum_of([part.whole() for part in self.parts])

    def lying(self):
        """What lies on each good for the next day."""
        rows = [part.lying() for part in self.parts]
        return [sum_of(list(numbers)) for numbers in zip(*rows)]

    def behind(self, day):
        """The account behind one more day."""
        return SumAccount([part.behind(day) for part in self.parts])


class ThenAccount:
    """One account for so many days, times another one for the days behind them."""

    def __init__(self, days, first, last):
        self.days = days
        self.first = first
        self.last = last

    def whole(self):
        """The purse."""
        return product_of([self.first.whole(), self.last.whole()])

    def lying(self):
        """What lies on each good for the next day."""
        if self.days > 0:
            whole = self.last.whole()
            return [product_of([number, whole]) for number in self.first.lying()]
        whole = self.first.whole()
        return [product_of([number, whole]) for number in self.last.lying()]

    def behind(self, day):
        """The account behind one more day."""
        if self.days > 0:
            return ThenAccount(self.days - 1, self.first.behind(day), self.last)
        return ThenAccount(0, self.first, self.last.behind(day))


def account_of(promise, days):
    """The account of a promise for so many days, ahead of them."""
    if isinstance(promise, Hold):
        return MixAccount(lightning_of(promise.goods, promise.good), 1)
    if isinstance(promise, Mix):
        return MixAccount(promise.shares, 1)
    if isinstance(promise, Times):
        return TimesAccount(promise.number, account_of(promise.part, days))
    if isinstance(promise, Sum):
        return SumAccount([account_of(part, days) for part in promise.parts])
    if isinstance(promise, Then):
        ahead = min(days, promise.days)
        first = account_of(promise.first, ahead)
        return ThenAccount(ahead, first, account_of(promise.last, days - ahead))
    return gone_through(promise, days)


def gone_through(promise, days):
    """The account of a promise that is told by all counts, or by all words."""
    if is_without_order(promise):
        return counts_account(promise, days)
    return words_account(promise, days)


def price_of(promise, days):
    """The price of a promise for so many days."""
    return account_of(promise, days).whole()
