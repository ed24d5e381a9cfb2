"""Books, which keep promises from day to day."""

from hindprice.accounts import account_of, need_few
from hindprice.errors import Misfit
from hindprice.needs import need_day, need_days
from hindprice.papers import fixed
from hindprice.promises import need_promise


def need_next_day(book, day):
    """A day of a book's goods, while days are left."""
    need_day(day, book.promise.goods, "day")
    if book.left == 0:
        raise Misfit("days")


def lying_in(account, left):
    """What lies on each good for the next day, () if no day is left."""
    if left == 0:
        return ()
    return tuple(account.lying())


class Book:
    """The book of a promise for so many days."""

    def __init__(self, promise, days):
        need_promise(promise, "promise")
        need_days(days)
        need_few(promise, days)
        self.promise = promise
        self._stand((), days, account_of(promise, days))

    def __eq__(self, other):
        return (isinstance(other, Book) and self.promise == other.promise
                and self.market == other.market and self.left == other.left)

    def _stand(self, market, left, account):
        """Behind these days, with so many left, the account tells purse and amounts."""
        self.market = market
        self.left = left
        self.account = account
        # The amounts tell the purse, too.
        self.amounts = lying_in(account, left)
        self.purse = account.whole()

    def day(self, day):
        """The day comes; the purse behind it."""
        need_next_day(self, day)
        self._stand((*self.market, fixed(day)), self.left - 1, self.account.behind(day))
        return self.purse

    def copy(self):
        """Another book, equal to this one, that goes on by itself."""
        # An account does not change, so both books may have the same one.
        other = Book(self.promise, 0)
        other._stand(self.market, self.left, self.account)
        return other
