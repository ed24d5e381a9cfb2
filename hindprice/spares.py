"""What is spare in a book, and thrifts, which take it out day by day."""

from hindprice.accounts import account_of, need_few, price_of
from hindprice.afters import left_behind
from hindprice.books import lying_in, need_next_day
from hindprice.errors import Misfit
from hindprice.exact import opposite, sum_of
from hindprice.needs import need_days, need_market
from hindprice.papers import fixed
from hindprice.promises import need_promise
from hindprice.worths import need_no_best


def spare(promise, days, market):
    """The purse of the book behind a market, less the price of what is left."""
    need_promise(promise, "promise")
    need_days(days)
    need_market(market, promise.goods, "market")
    need_no_best(promise)
    if len(market) > days:
        raise Misfit("market")
    need_few(promise, days)
    account = account_of(promise, days)
    left = promise
    for day in market:
        account = account.behind(day)
        left = left_behind(left, day)
    return sum_of([account.whole(), opposite(price_of(left, days - len(market)))])


class Thrift:
    """A book that takes out behind each day what is spare."""

    def __init__(self, promise, days):
        need_promise(promise, "promise")
        need_days(days)
        need_no_best(promise)
        need_few(promise, days)
        self.promise = promise
        self.taken = 0
        self._stand((), days, promise)

    def __eq__(self, other):
        return (isinstance(other, Thrift) and self.promise == other.promise
                and self.market == other.market and self.left == other.left)

    def _stand(self, market, left, remains):
        """Behind these days, with so many left, it is the book of the promise that remains."""
        self.account = account_of(remains, left)
        self.market = market
        self.left = left
        self.remains = remains
        # The amounts tell the purse, too.
        self.amounts = lying_in(self.account, left)
        self.purse = self.account.whole()

    def day(self, day):
        """The day comes; what is taken out behind it."""
        need_next_day(self, day)
        made = self.account.behind(day).whole()
        self._stand((*self.market, fixed(day)), self.left - 1, left_behind(self.remains, day))
        over = sum_of([made, opposite(self.purse)])
        self.taken = sum_of([self.taken, over])
        return over

    def copy(self):
        """Another thrift, equal to this one, that goes on by itself."""
        other = Thrift(self.promise, 0)
        other.market = self.market
        other.left = self.left
        other.account = self.account
        other.remains = self.remains
        other.purse = self.purse
        other.amounts = self.amounts
        other.taken = self.taken
        return other
