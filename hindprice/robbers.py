"""Whether sellers are safe, and the words at which they are robbed."""

from hindprice.accounts import account_of, need_few
from hindprice.days import lightning_of
from hindprice.errors import BadSeller, Misfit
from hindprice.exact import bottom_of, is_less, product_of, top_of
from hindprice.needs import need_days
from hindprice.papers import Denial, Paper
from hindprice.promises import need_promise
from hindprice.sellers import has_at, need_seller
from hindprice.tables import is_above, word_table
from hindprice.words import need_few_words, words_of
from hindprice.worths import owed_at


class Safe(Paper):
    """A seller is short at no word."""

    def __init__(self):
        Paper.__init__(self, "safe")


class Robbed(Denial):
    """A seller is short at a word: what it has there, and what it owes."""

    def __init__(self, course, has, owes):
        Denial.__init__(self, "robbed", course, has, owes)
        self.course, self.has, self.owes = self.parts


def need_sold(promise, days, seller):
    """A promise, a number of days, and a seller of as many goods."""
    need_promise(promise, "promise")
    need_days(days)
    need_seller(seller)
    if seller.goods != promise.goods:
        raise BadSeller("seller")


def robbed_at(promise, seller, word):
    """The Robbed of a word."""
    return Robbed(word, has_at(seller, word), owed_at(promise, word))


def all_had(seller, days):
    """What a seller has at all words of so many goods, ascending, as pairs that need not be in their one form."""
    leads = [list(zip(shares, nexts)) for shares, nexts in seller.rows]
    ways = [(top_of(seller.purse), bottom_of(seller.purse), 0)]
    for _ in range(days):
        ways = [(top * top_of(share), bottom * bottom_of(share), end)
                for top, bottom, standing in ways for share, end in leads[standing]]
    return [(top, bottom) for top, bottom, _ in ways]


def first_short(promise, days, seller):
    """The first word of so many goods at which a seller is short, None without one."""
    owed = word_table(promise, days)
    for place, number in enumerate(all_had(seller, days)):
        if is_above(owed, place, number):
            return words_of(promise.goods, days)[place]
    return None


def judged_seller(promise, days, seller):
    """Safe, or the Robbed of the first word at which a seller is short."""
    need_sold(promise, days, seller)
    need_few_words(promise.goods, days)
    word = first_short(promise, days, seller)
    if word is None:
        return Safe()
    return robbed_at(promise, seller, word)


def robbed(promise, days, seller):
    """The Robbed of the word at which a seller with less than the price is robbed good by good."""
    need_sold(promise, days, seller)
    need_few(promise, days)
    account = account_of(promise, days)
    if not is_less(seller.purse, account.whole()):
        raise Misfit("seller")
    course = []
    purse = seller.purse
    standing = 0
    for _ in range(days):
        # Behind the lightnings of a word the account lies on the goods as the
        # rests behind them: they sum to more than the seller has on the goods.
        shares, nexts = seller.rows[standing]
        laid = [product_of([purse, share]) for share in shares]
        good = [is_less(here, rest) for here, rest in zip(laid, account.lying())].index(True)
        course.append(good)
        purse = laid[good]
        standing = nexts[good]
        account = account.behind(lightning_of(promise.goods, good))
    return Robbed(course, purse, owed_at(promise, course))
