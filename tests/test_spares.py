"""hindprice.spares."""

import random
import unittest

from hindprice.afters import after_day
from hindprice.books import Book
from hindprice.errors import BadDay, BadMarket, BadNumber, BadPromise, Misfit, TooMany
from hindprice.machines import Machine
from hindprice.prices import price
from hindprice.promises import BestMix, BestWalk, Greatest, Hold, Mix, Sum, Then, Times
from hindprice.spares import Thrift, spare
from hindprice.worths import worth
from tests import oracle
from tests.support import Case, fraction, listed, told
from tests.test_afters import NO_DAYS
from tests.test_books import NOT_EQUAL
from tests.test_prices import NO_LENGTHS
from tests.test_promises import NO_PROMISES
from tests.test_worths import NO_MARKETS

ONE, TWO = Hold(2, 0), Hold(2, 1)
HALF = ((1, 2), (1, 2))
CHAIN = Machine([(1, 0), (0, 1)], [(0, 0), (0, 1), (1, 1)])
WALK, BEST, CALM = BestWalk(CHAIN, (1, 0)), BestMix(2, (0, 0)), Greatest([ONE, TWO])
MIXED = Greatest([Mix(HALF), ONE])
WORDS, COUNTS = TooMany("words", 4096), TooMany("counts", 5000)
WITH_BEST = [BEST, Sum([ONE, BEST]), Times(0, BEST), Then(1000, ONE, BEST)]


def left_price(promise, days, market):
    """The price of what is left behind a market, by the worths of the promise itself."""
    return sum(oracle.worth(promise, (*market, *oracle.lightnings(promise.goods, word)))
               for word in oracle.words(promise.goods, days - len(market)))


def some(seed, many):
    chance = random.Random(seed)
    for _ in range(many):
        goods = chance.randint(1, 3)
        days = chance.randint(0, 3)
        yield oracle.some_promise(chance, goods, best=False), days, oracle.some_market(chance, goods, days)


def state(thrift):
    return (thrift.market, thrift.left, thrift.purse, thrift.amounts, thrift.taken)


class Spares(Case):
    def test_against_all_words(self):
        for promise, days, market in some(121, 150):
            for many in range(days + 1):
                here = market[:many]
                wanted = told(oracle.purse(promise, days, here) - left_price(promise, days, here))
                self.same(spare(promise, days, here), wanted)
                self.same(spare(promise=promise, days=days, market=listed(here)), wanted)
                self.assertGreaterEqual(fraction(wanted), 0)

    def test_against_books(self):
        for promise, days, market in some(122, 100):
            book, left = Book(promise, days), promise
            for at, day in enumerate(market):
                book.day(day)
                left = after_day(left, day)
                wanted = fraction(book.purse) - fraction(price(left, days - at - 1))
                self.same(spare(promise, days, market[:at + 1]), told(wanted))

    def test_behind_no_day_and_behind_all_days(self):
        for promise, days, market in some(123, 100):
            self.same(spare(promise, days, ()), 0)
            book = Book(promise, days)
            for day in market:
                book.day(day)
            self.same(spare(promise, days, market), told(fraction(book.purse) - fraction(worth(promise, market))))

    def test_lightnings(self):
        chance = random.Random(124)
        for promise, days, _ in some(125, 60):
            word = oracle.some_word(chance, promise.goods, days)
            for many in range(days + 1):
                self.same(spare(promise, days, oracle.lightnings(promise.goods, word[:many])), 0)

    def test_by_hand(self):
        self.same(spare(CALM, 1, [(3, (1, 2))]), (1, 2))
        self.same(spare(CALM, 3, [(3, 2)]), 0)
        self.same(spare(CALM, 2, [(3, 2), (1, 1)]), 2)
        self.same(spare(Sum([ONE, Mix(HALF)]), 1000, [(5, 7)] * 10), 0)
        self.same(spare(Times(2, CALM), 1, [[0, 0]]), 0)

    def test_wrong_arguments(self):
        for value in NO_PROMISES:
            self.raises(BadPromise("promise"), spare, value, -1, None)
            self.raises(BadPromise("promise"), Thrift, value, -1)
        for value in NO_LENGTHS:
            for promise in (CALM, BEST):
                self.raises(BadNumber("days"), spare, promise, value, None)
                self.raises(BadNumber("days"), Thrift, promise, value)
        for value in NO_MARKETS:
            for promise in (CALM, BEST, WALK):
                self.raises(BadMarket("market"), spare, promise, 0, value)
                self.raises(BadMarket("market"), spare, promise, 1000, value)
        for promise in WITH_BEST:
            self.raises(Misfit("promise"), spare, promise, 1, [])
            self.raises(Misfit("promise"), spare, promise, 0, [(1, 1)])
            self.raises(Misfit("promise"), Thrift, promise, 1)
        for promise in (CALM, WALK, ONE):
            self.raises(Misfit("market"), spare, promise, 0, [(1, 1)])
            self.raises(Misfit("market"), spare, promise, 13, [(1, 1)] * 14)
        # Misfit is ahead of TooMany.
        least, both = BestMix(3, (0, 0, 0)), Greatest([Hold(3, 0), Hold(3, 1)])
        self.raises(Misfit("promise"), spare, least, 99, [])
        self.raises(Misfit("promise"), Thrift, least, 99)
        self.raises(Misfit("promise"), Thrift, Sum([WALK, BEST]), 13)
        for promise, days, error in ((WALK, 13, WORDS), (both, 99, COUNTS), (Times(0, WALK), 13, WORDS),
                                     (Sum([both, BestWalk(Machine([(0, 0, 1)], [(0, 0)]), [1])]), 99, COUNTS)):
            self.raises(error, spare, promise, days, [])
            self.raises(error, Thrift, promise, days)
        self.same((spare(WALK, 12, []), Thrift(both, 98).left), (0, 98))


class Thrifts(Case):
    def test_day_by_day(self):
        for promise, days, market in some(126, 150):
            thrift, taken = Thrift(promise, days), 0
            self.same((thrift.taken, thrift.market, thrift.left), (0, (), days))
            for at, day in enumerate(market):
                here = market[:at + 1]
                made = oracle.paid(thrift.amounts, day)
                self.same(thrift.purse, told(sum(map(fraction, thrift.amounts))))
                wanted = made - left_price(promise, days, here)
                taken += wanted
                self.same(thrift.day(listed(day) if at % 2 else day), told(wanted))
                self.same((thrift.market, thrift.left, thrift.taken), (here, days - at - 1, told(taken)))
                self.same(thrift.purse, told(left_price(promise, days, here)))
                self.assertGreaterEqual(wanted, 0)
                self.assertIs(thrift.promise == promise, True)
            self.same((thrift.purse, thrift.amounts), (worth(promise, market), ()))

    def test_amounts_are_those_of_the_book_of_what_is_left(self):
        for promise, days, market in some(127, 100):
            thrift, left = Thrift(promise, days), promise
            for at, day in enumerate(market):
                self.same(thrift.amounts, Book(left, days - at).amounts)
                thrift.day(day)
                left = after_day(left, day)
                self.same(thrift.purse, Book(left, days - at - 1).purse)

    def test_the_first_day_takes_the_spare(self):
        for promise, days, market in some(128, 100):
            if days:
                self.same(Thrift(promise, days).day(market[0]), spare(promise, days, market[:1]))

    def test_days_of_0s(self):
        thrift = Thrift(MIXED, 3)
        thrift.day((2, 1))
        self.same((thrift.day((0, 0)), thrift.purse, thrift.amounts), (0, 0, (0, 0)))
        self.same((thrift.day((5, 5)), thrift.purse, thrift.amounts, thrift.taken), (0, 0, (), spare(MIXED, 3, [(2, 1)])))

    def test_many_days(self):
        chance = random.Random(129)
        for promise, days in ((Greatest([Hold(3, 0), Hold(3, 1), Mix([(1, 3), (1, 3), (1, 3)])]), 60),
                              (Greatest([WALK, Mix(HALF)]), 12), (Sum([ONE, Times(2, Mix(HALF))]), 60)):
            market = oracle.some_market(chance, promise.goods, days)
            thrift = Thrift(promise, days)
            for day in market:
                made = oracle.paid(thrift.amounts, day)
                taken = thrift.day(day)
                self.assertEqual(made - fraction(taken), fraction(thrift.purse))
                self.assertGreaterEqual(fraction(taken), 0)
            self.assertEqual(thrift.purse, worth(promise, market))

    def test_equality(self):
        self.assertIs(Thrift(CALM, 2) == Thrift(promise=Greatest((Hold(2, 0), Hold(2, 1))), days=2), True)
        self.assertIs(Thrift(CALM, 2) != Thrift(CALM, 2), False)
        self.assertIs(Thrift(CALM, 2) == Thrift(CALM, 3), False)
        self.assertIs(Thrift(CALM, 2) == Thrift(MIXED, 2), False)
        one, other = Thrift(CALM, 2), Thrift(CALM, 2)
        one.day((1, 2))
        self.assertIs(one == other, False)
        other.day([1, 2])
        self.assertIs(one == other, True)
        other = Thrift(CALM, 1)
        self.assertIs(one == other, False)
        for value in NOT_EQUAL + [Book(CALM, 2)]:
            self.assertIs(Thrift(CALM, 2) == value, False)
            self.assertIs(value == Thrift(CALM, 2), False)

    def test_copies(self):
        for promise in (CALM, MIXED, WALK, ONE, Sum([CALM, Times(2, WALK)]), Then(2, CALM, MIXED)):
            thrift = Thrift(promise, 3)
            thrift.day((2, 1))
            other = thrift.copy()
            self.assertIsInstance(other, Thrift)
            self.assertIs(other == thrift, True)
            self.assertIs(other.promise == promise, True)
            before = state(other)
            self.same(state(thrift), before)
            taken = thrift.day((3, 5))
            self.assertIs(other == thrift, False)
            self.same(state(other), before)
            self.same(other.day((3, 5)), taken)
            self.same(state(other), state(thrift))
            third = other.copy().copy()
            third.day((0, 1))
            self.same((third.left, third.amounts, other.left), (0, (), 1))
            other.day((0, 1))
            self.same(state(other), state(third))

    def test_a_day_that_is_refused_changes_nothing(self):
        for promise in (CALM, MIXED, WALK, ONE):
            thrift = Thrift(promise, 2)
            for left in (1, 0):
                thrift.day((2, (1, 3)))
                before = state(thrift)
                for value in NO_DAYS:
                    self.raises(BadDay("day"), thrift.day, value)
                if left == 0:
                    self.raises(Misfit("days"), thrift.day, (1, 1))
                    self.raises(Misfit("days"), thrift.day, day=[0, 0])
                self.same(state(thrift), before)

    def test_lists_that_are_changed_later(self):
        day = [[3, 2], 1]
        thrift = Thrift(MIXED, 2)
        thrift.day(day)
        before = state(thrift)
        day[0][0] = 99
        day.append(5)
        self.same(state(thrift), before)
        self.same(thrift.market, (((3, 2), 1),))


if __name__ == "__main__":
    unittest.main()
