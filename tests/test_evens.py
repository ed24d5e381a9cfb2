"""hindprice.evens."""

import math
import random
import unittest
from fractions import Fraction

from hindprice.errors import BadMarket, BadMix, BadNumber, TooMany
from hindprice.evens import even_amounts, even_factor, even_purse, even_spare, even_weight
from hindprice.prices import price
from hindprice.promises import BestMix, Mix
from hindprice.words import all_counts
from hindprice.worths import worth
from tests import oracle
from tests.support import NO_NUMBERS, STRANGE, Case, fraction, listed, told

NO_GOODS = NO_NUMBERS + [0, -1, 6, (1, 2), 10 ** 40]
NO_DAYS = NO_NUMBERS + [-1, 1001, (1, 2), 10 ** 40]
NO_COUNTS = STRANGE + [0, 1, (), [], (0,) * 6, (1, -1), (1, 1001), (1, True), (False,), (1, (1, 2)), [(1,)], (None,), "12",
                       (1, 1.0), [[1, 2]]]
NO_MARKETS = STRANGE + [0, 1, "12", [1], [()], [(1,)], [(1, 2, 3)], [(1, -1)], [(1, 2), (1,)], [(1, True)], [(1, (2, 4))],
                        (1, 2), [[(1, 2)]], [None]]
NO_MIXES = STRANGE + [0, 1, (), (1,), (1, 1), (0, 0), (2, -1), ((2, 4), (1, 2)), (True, 0), (1, False), (1, None), "10",
                      ((1, 2), (1, 3)), (1, 0, 0), [(1, 0)]]
COUNTS = TooMany("counts", 5000)
MOST = {1: 100, 2: 60, 3: 60, 4: 29, 5: 16}


def weight(counts):
    """The even weight by products."""
    goods, days = len(counts), sum(counts)
    whole = Fraction(math.prod(range(1, goods)))
    for count in counts:
        whole *= math.prod(range(1, count + 1))
    return whole / math.prod(range(1, days + goods))


def counted(goods, word):
    return [word.count(good) for good in range(goods)]


def purse(goods, market):
    return sum(oracle.weight(market, word) * weight(counted(goods, word)) for word in oracle.words(goods, len(market)))


def amounts(goods, market):
    return tuple(told(sum(oracle.weight(market, word) * weight(counted(goods, (*word, good)))
                          for word in oracle.words(goods, len(market)))) for good in range(goods))


class Weights(Case):
    def test_by_products(self):
        chance = random.Random(221)
        for _ in range(200):
            counts = [chance.choice((0, 0, 1, 2, 3, 17, 200)) for _ in range(chance.randint(1, 5))]
            self.assertEqual(even_weight(counts), told(weight(counts)))
            self.assertEqual(even_weight(counts=tuple(counts)), told(weight(counts)))
        self.same((even_weight((2, 0)), even_weight([1, 1]), even_weight([1000]), even_weight((0,) * 5)), ((1, 3), (1, 6), 1, 1))
        self.assertEqual(even_weight((1000, 0)), (1, 1001))
        self.assertEqual(even_weight((1000, 900, 0, 800, 1)), told(weight((1000, 900, 0, 800, 1))))

    def test_they_add_up(self):
        # Over all words of so many goods, which have them by their counts, they sum to 1.
        for goods in range(1, 6):
            for days in range(5):
                self.assertEqual(sum(weight(counted(goods, word)) for word in oracle.words(goods, days)), 1)
                self.assertEqual(sum(fraction(even_weight(counted(goods, word))) for word in oracle.words(goods, days)), 1)

    def test_factor(self):
        for goods in range(1, 6):
            for days in range(8):
                self.same(even_factor(goods, days), len(all_counts(goods, days)))
                self.same(even_factor(days=days, goods=goods), math.comb(days + goods - 1, goods - 1))
            self.same(even_factor(goods, 1000), math.comb(1000 + goods - 1, goods - 1))
        for goods in (2, 3):
            for days in range(2, 8):
                self.assertLess(fraction(price(BestMix(goods, [0] * goods), days)), even_factor(goods, days))

    def test_wrong_arguments(self):
        for value in NO_COUNTS:
            self.raises(BadNumber("counts"), even_weight, value)
        for value in NO_GOODS:
            for days in (1, -1, None):
                self.raises(BadNumber("goods"), even_factor, value, days)
        for value in NO_DAYS:
            self.raises(BadNumber("days"), even_factor, 2, value)


class Purses(Case):
    def test_against_all_words(self):
        chance = random.Random(222)
        for _ in range(150):
            goods = chance.randint(1, 4)
            market = oracle.some_market(chance, goods, chance.randint(0, 5 if goods < 3 else 3))
            self.same(even_purse(goods, market), told(purse(goods, market)))
            self.same(even_purse(market=listed(market), goods=goods), told(purse(goods, market)))
            self.same(even_amounts(goods, market), amounts(goods, market))
            self.same(even_amounts(market=listed(market), goods=goods), amounts(goods, market))

    def test_days_that_come_again(self):
        chance = random.Random(226)
        for _ in range(80):
            goods = chance.randint(1, 3)
            few = [oracle.some_day(chance, goods) for _ in range(2)]
            market = [chance.choice(few) for _ in range(chance.randint(0, 6 if goods < 3 else 4))]
            if market:
                # Equal as numbers, passed as lists.
                market[0] = listed(market[0])
            self.same(even_purse(goods, market), told(purse(goods, market)))
            self.same(even_amounts(goods, market), amounts(goods, market))

    def test_amounts_against_purses(self):
        chance = random.Random(223)
        for goods, days in ((1, 12), (2, 30), (3, 12), (4, 7), (5, 5)):
            market = oracle.some_market(chance, goods, days)
            for many in range(days):
                lying = [fraction(amount) for amount in even_amounts(goods, market[:many])]
                self.assertEqual(sum(lying), fraction(even_purse(goods, market[:many])))
                onward = sum(amount * fraction(number) for amount, number in zip(lying, market[many]))
                self.assertEqual(told(onward), even_purse(goods, market[:many + 1]))

    def test_lightnings(self):
        # The share on a good is one more than how often it came, of the days and the goods.
        for goods in range(1, 6):
            for word in ((), (0,), (0,) * 4, tuple(range(goods)), tuple(range(goods)) + (0, 0)):
                market = oracle.lightnings(goods, word)
                here = fraction(even_purse(goods, market))
                self.same(told(here), told(weight(counted(goods, word))))
                for good, amount in enumerate(even_amounts(goods, market)):
                    self.assertEqual(fraction(amount) / here, Fraction(word.count(good) + 1, len(word) + goods))

    def test_no_days_and_nothing(self):
        for goods in range(1, 6):
            self.same(even_purse(goods, []), 1)
            self.same(even_amounts(goods, ()), (told(Fraction(1, goods)),) * goods)
            self.same(even_purse(goods, [(0,) * goods]), 0)
            self.same(even_amounts(goods, [(0,) * goods] * 2), (0,) * goods)
        self.same(even_purse(1, [[2]] * 10 + [[(1, 3)]]), (1024, 3))

    def test_just_so_many_counts_and_more(self):
        for goods, most in ((3, 98), (4, 29), (5, 16)):
            day = [1] * goods
            self.same(even_purse(goods, [day] * most), 1)
            self.same(even_amounts(goods, [day] * most), (told(Fraction(1, goods)),) * goods)
            self.same(even_spare(goods, [day] * most, [1] + [0] * (goods - 1)), even_factor(goods, most) - 1)
            self.raises(COUNTS, even_purse, goods, [day] * (most + 1))
            self.raises(COUNTS, even_amounts, goods, [day] * (most + 1))
            self.raises(COUNTS, even_spare, goods, [day] * (most + 1), [1] + [0] * (goods - 1))
        self.same(even_purse(2, [(1, 1)] * 400), 1)
        # Of 4,999 days there are just 5,000 counts of two goods.
        self.same(even_purse(2, [(1, 1)] * 4999), 1)
        self.same(even_amounts(2, [(0, 2)] * 4999) == (told(Fraction(2 ** 4999, 5000 * 5001)), told(Fraction(2 ** 4999, 5001))), True)
        for call in (even_purse, even_amounts, lambda goods, market: even_spare(goods, market, (1, 0))):
            self.raises(COUNTS, call, 2, [(1, 1)] * 5000)
        self.same(even_purse(1, [(1,)] * 1000), 1)


class Spares(Case):
    def test_by_hand(self):
        chance = random.Random(224)
        for _ in range(200):
            goods = chance.randint(1, 3)
            market = oracle.some_market(chance, goods, chance.randint(0, 4))
            shares = oracle.some_mix(chance, goods)
            wanted = purse(goods, market) * even_factor(goods, len(market)) - fraction(worth(Mix(shares), market))
            self.assertGreaterEqual(wanted, 0)
            self.same(even_spare(goods, market, shares), told(wanted))
            self.same(even_spare(shares=listed(shares), goods=goods, market=listed(market)), told(wanted))

    def test_never_below_0(self):
        chance = random.Random(225)
        for goods, days in ((2, 60), (3, 20), (5, 9)):
            for market in (oracle.some_market(chance, goods, days), oracle.lightnings(goods, [0] * days),
                           oracle.lightnings(goods, [at % goods for at in range(days)])):
                for shares in (oracle.some_mix(chance, goods), [1] + [0] * (goods - 1), [told(Fraction(1, goods))] * goods):
                    self.assertGreaterEqual(fraction(even_spare(goods, market, shares)), 0)
        # Where one good alone came, nothing is spare of holding it.
        for goods in range(1, 6):
            self.same(even_spare(goods, oracle.lightnings(goods, (0,) * 9), [1] + [0] * (goods - 1)), 0)


class WrongArguments(Case):
    def test_goods(self):
        for value in NO_GOODS:
            for market in ([], None):
                self.raises(BadNumber("goods"), even_purse, value, market)
                self.raises(BadNumber("goods"), even_amounts, value, market)
                self.raises(BadNumber("goods"), even_spare, value, market, None)

    def test_markets(self):
        for value in NO_MARKETS:
            self.raises(BadMarket("market"), even_purse, 2, value)
            self.raises(BadMarket("market"), even_amounts, 2, value)
            self.raises(BadMarket("market"), even_spare, 2, value, None)
        # Too many counts come behind a wrong market.
        self.raises(BadMarket("market"), even_purse, 5, [(1,) * 5] * 40 + [(1,) * 4])

    def test_mixes(self):
        for value in NO_MIXES:
            for market in ([], [(1, 1)], [(1, 1)] * 3):
                self.raises(BadMix("shares"), even_spare, 2, market, value)
        self.raises(BadMix("shares"), even_spare, 5, [(1,) * 5] * 40, (1, 0, 0, 0))


if __name__ == "__main__":
    unittest.main()
