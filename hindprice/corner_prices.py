"""What promises cost where days are known to lie in a corner.

A promise without a best mix is worth at rows of a corner what another one is
worth at lightnings: the one with each share in the place of what the row has, or
pays. So what is told by all words of rows is told by the account of this one.
Its shares are those of rows without a bottom, so a part of a row is taken over
the bottom of the row.
"""

from hindprice.accounts import gone_through
from hindprice.checks import is_list, is_number
from hindprice.corners import is_between_of, need_corner, parts_at
from hindprice.days import lightning_of
from hindprice.errors import BadCorner, BadMarket, BadNumber, Misfit
from hindprice.exact import is_less, levelled, ratio, sum_of, sum_of_products
from hindprice.machines import Machine
from hindprice.needs import need_days, need_word
from hindprice.promises import BestWalk, Hold, Mix, need_promise, parts_in, with_parts
from hindprice.words import need_few_words
from hindprice.worths import need_no_best


def paid_by(shares, rows):
    """What shares are paid by each row."""
    return tuple([sum_of_products(shares, row) for row in rows])


def in_corner(promise, rows):
    """The promise that is worth at lightnings what a promise is worth at rows; its shares may sum to anything."""
    if isinstance(promise, Hold):
        return in_corner(Mix(lightning_of(promise.goods, promise.good)), rows)
    if isinstance(promise, Mix):
        made = Mix(promise.shares)
        made.shares = paid_by(promise.shares, rows)
        return made
    if isinstance(promise, BestWalk):
        machine = Machine(promise.machine.mixes, promise.machine.arrows)
        machine.mixes = tuple([paid_by(mix, rows) for mix in machine.mixes])
        return BestWalk(machine, promise.weights)
    return with_parts(promise, [in_corner(part, rows) for part in parts_in(promise)])


class CornerAccount:
    """What is told by all words of rows behind some rows or days, and for how many days it is still told."""

    def __init__(self, corner, account, left):
        self.corner = corner
        self.account = account
        self.left = left

    def behind_parts(self, parts):
        """Behind the day that has these parts."""
        day = [ratio(part, bottom) for part, bottom in zip(parts, bottoms_of(self.corner))]
        return CornerAccount(self.corner, self.account.behind(day), self.left - 1)

    def behind_row(self, row):
        """Behind the row of this index."""
        return self.behind_parts(lightning_of(self.corner.goods, row))

    def behind_rows(self, word):
        """Behind the rows of a word."""
        account = self
        for row in word:
            account = account.behind_row(row)
        return account

    def rest(self):
        """What all that may come costs: the sum over all words of the days that are left, by their weights."""
        account = self
        while account.left > 0:
            account = account.behind_parts(self.corner.weights)
        return account.account.whole()


def bottoms_of(corner):
    """The bottom of each row."""
    return [levelled(row)[1] for row in corner.rows]


def corner_account(promise, corner, days):
    """The account of a promise ahead of all days."""
    rows = [levelled(row)[0] for row in corner.rows]
    return CornerAccount(corner, gone_through(in_corner(promise, rows), days), days)


def need_cornered(promise, corner, days):
    """A promise, a corner of its goods, and a number of days."""
    need_promise(promise, "promise")
    need_corner(corner)
    if corner.goods != promise.goods:
        raise BadCorner("corner")
    need_days(days)


def corner_price(promise, corner, days):
    """The price of a promise in a corner."""
    need_cornered(promise, corner, days)
    need_no_best(promise)
    need_few_words(promise.goods, days)
    return corner_account(promise, corner, days).rest()


def corner_rest(promise, corner, days, word):
    """The rest behind a word of rows."""
    need_cornered(promise, corner, days)
    need_word(word, promise.goods, "word")
    need_no_best(promise)
    if len(word) > days:
        raise Misfit("word")
    need_few_words(promise.goods, days)
    return corner_account(promise, corner, days).behind_rows(word).rest()


def need_market_between(market, corner):
    """A market whose days are all between the rows."""
    if not is_list(market) or not all([is_between_of(corner, day) for day in market]):
        raise BadMarket("market")


def account_behind(promise, corner, days, market):
    """The account of a promise behind a market."""
    account = corner_account(promise, corner, days)
    for day in market:
        account = account.behind_parts(parts_at(corner, day))
    return account


def corner_purse(promise, corner, days, market):
    """The purse behind a market of days between the rows."""
    need_cornered(promise, corner, days)
    need_market_between(market, corner)
    need_no_best(promise)
    if len(market) > days:
        raise Misfit("market")
    need_few_words(promise.goods, days)
    return account_behind(promise, corner, days, market).rest()


def rests_by_rows(account):
    """The rest behind each row as the next one."""
    return [account.behind_row(row).rest() for row in range(account.corner.goods)]


def corner_amounts(promise, corner, days, market):
    """What lies on each good for the day behind a market of days between the rows."""
    need_cornered(promise, corner, days)
    need_market_between(market, corner)
    need_no_best(promise)
    if len(market) >= days:
        raise Misfit("market")
    need_few_words(promise.goods, days)
    rests = rests_by_rows(account_behind(promise, corner, days, market))
    return tuple([sum_of_products([line[good] for line in corner.lines], rests) for good in range(promise.goods)])


def need_amounts(amounts, goods):
    """A number for each good."""
    if not is_list(amounts) or len(amounts) != goods or not all([is_number(amount) for amount in amounts]):
        raise BadNumber("amounts")


def robbed_corner(promise, corner, days, word, amounts):
    """The first row at which amounts come to less than the rest behind a word and this row."""
    need_cornered(promise, corner, days)
    need_word(word, promise.goods, "word")
    need_amounts(amounts, promise.goods)
    need_no_best(promise)
    if len(word) >= days:
        raise Misfit("word")
    need_few_words(promise.goods, days)
    account = corner_account(promise, corner, days).behind_rows(word)
    if not is_less(sum_of(amounts), account.rest()):
        raise Misfit("amounts")
    # One is found: at the quiet day, a sum of rows, the amounts come to less than the rest [14].
    short = [is_less(sum_of_products(amounts, row), rest) for row, rest in zip(corner.rows, rests_by_rows(account))]
    return short.index(True)
