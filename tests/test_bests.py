"""hindprice.bests."""

import math
import random
import unittest
from fractions import Fraction

from hindprice.bests import all_best, best_price, best_rest, best_worth
from hindprice.errors import BadNumber, TooMany
from hindprice.prices import price, rest
from hindprice.promises import BestMix
from hindprice.words import all_counts, ways
from hindprice.worths import worth_at
from tests import oracle
from tests.support import NO_NUMBERS, STRANGE, Case, fraction, told

NO_COUNTS = STRANGE + [0, 1, (), [], (0,) * 6, (1, -1), (1, 1001), (1, True), (False,), (1, (1, 2)), [(1,)], (None,), "12",
                       (1, 1.0), [[1, 2]]]
NO_PRICED_DAYS = NO_NUMBERS + [-1, 251, 1000, (1, 2), 10 ** 40]
NO_PRICED_GOODS = NO_NUMBERS + [0, -1, 61, (1, 2), 10 ** 40]
COUNTS = TooMany("counts", 5000)


def made(counts):
    """The product by hand: c / N, c times, over all goods."""
    whole = Fraction(1)
    for count in counts:
        for _ in range(count):
            whole *= Fraction(count, sum(counts))
    return whole


class Worth(Case):
    def test_by_hand(self):
        chance = random.Random(161)
        for _ in range(300):
            counts = [chance.choice((0, 0, 1, 2, 5, 17)) for _ in range(chance.randint(1, 5))]
            self.same(best_worth(counts), told(made(counts)))
            self.same(best_worth(counts=tuple(counts)), told(made(counts)))
        self.same(best_worth((200, 0, 300)), told(made((200, 0, 300))))

    def test_zeros(self):
        for goods in range(1, 6):
            self.same(best_worth([0] * goods), 1)
            self.same(best_worth([0] * (goods - 1) + [7]), 1)
            self.same(best_worth([1000] + [0] * (goods - 1)), 1)
        self.same(best_worth((1, 1)), (1, 4))

    def test_greatest_counts(self):
        self.same(best_worth([1000] * 5) == (1, 5 ** 5000), True)
        self.same(fraction(best_worth([1000, 500])), Fraction(2, 3) ** 1000 * Fraction(1, 3) ** 500)

    def test_as_a_promise(self):
        for counts in ((2, 1), (0, 3), (1, 0, 4)):
            self.same(best_worth(counts), worth_at(BestMix(len(counts), counts), ()))
            self.same(best_worth(counts), worth_at(BestMix(len(counts), [0] * len(counts)),
                                                   [good for good, count in enumerate(counts) for _ in range(count)]))

    def test_wrong_arguments(self):
        for value in NO_COUNTS:
            self.raises(BadNumber("counts"), best_worth, value)
            self.raises(BadNumber("counts"), best_worth, counts=value)


class Price(Case):
    def test_against_all_words(self):
        for goods in range(1, 5):
            for days in range(5):
                wanted = sum(oracle.worth_at(BestMix(goods, [0] * goods), word) for word in oracle.words(goods, days))
                self.same(best_price(goods, days), told(wanted))
        self.same(best_price(goods=7, days=3), told(sum(made([word.count(good) for good in range(7)])
                                                        for word in oracle.words(7, 3))))

    def test_against_counts(self):
        for goods, days in ((2, 40), (3, 20), (4, 12), (5, 9), (5, 16)):
            wanted = sum(ways(counts) * made(counts) for counts in all_counts(goods, days))
            self.same(best_price(goods, days), told(wanted))
            self.same(best_price(goods, days), price(BestMix(goods, [0] * goods), days))

    def test_at_the_bounds(self):
        for goods in range(1, 61):
            self.same(best_price(goods, 0), 1)
            self.same(best_price(goods, 1), goods)
            # Two days: goods words are worth 1, all others 1/4.
            self.same(best_price(goods, 2), told(goods + Fraction(goods * (goods - 1), 4)))
        for days in (0, 1, 2, 249, 250):
            self.same(best_price(1, days), 1)
        # It is how many ways there are to give each of n things a good, and an arrow to a thing of its good.
        wanted = sum(math.comb(250, count) * count ** count * (250 - count) ** (250 - count) for count in range(251))
        self.same(fraction(best_price(2, 250)), Fraction(wanted, 250 ** 250))

    def test_all_against_each(self):
        for days in (0, 1, 2, 3, 17, 60, 250):
            told_all = all_best(60, days)
            self.same(len(told_all), 60)
            for goods in (1, 2, 3, 4, 5, 31, 59, 60):
                self.same(all_best(goods, days), told_all[:goods])
                self.same(best_price(goods, days), told_all[goods - 1])
            if days > 0:
                for at in range(58):
                    numbers = [fraction(number) for number in told_all[at:at + 3]]
                    self.assertEqual(numbers[2], numbers[1] + Fraction(days, at + 1) * numbers[0])
        self.same(all_best(goods=1, days=9), (1,))
        self.same(all_best(2, days=3), (1, (26, 9)))

    def test_wrong_arguments(self):
        for call in (best_price, all_best):
            for value in NO_PRICED_GOODS:
                for other in (2, -1, None):
                    self.raises(BadNumber("goods"), call, value, other)
                self.raises(BadNumber("goods"), call, days=-1, goods=value)
            for value in NO_PRICED_DAYS:
                for goods in (1, 2, 60):
                    self.raises(BadNumber("days"), call, goods, value)


class Rest(Case):
    def test_against_words(self):
        chance = random.Random(162)
        for _ in range(120):
            goods = chance.randint(1, 4)
            counts = [chance.choice((0, 0, 1, 2, 9)) for _ in range(goods)]
            for days in range(4):
                wanted = sum(made([count + word.count(good) for good, count in enumerate(counts)])
                             for word in oracle.words(goods, days))
                self.same(best_rest(counts, days), told(wanted))
                self.same(best_rest(days=days, counts=tuple(counts)), told(wanted))

    def test_counts_in_hundreds(self):
        for counts in ((300, 0), (123, 456), (1000, 1000, 0)):
            wanted = sum(made([count + word.count(good) for good, count in enumerate(counts)])
                         for word in oracle.words(len(counts), 2))
            self.assertEqual(best_rest(counts, 2), told(wanted))
            self.assertEqual(best_rest(counts, 0), best_worth(counts))

    def test_as_rests_of_a_promise(self):
        for word in ((), (0,), (1, 0), (1, 1, 1)):
            counts = [word.count(good) for good in range(3)]
            self.same(best_rest(counts, 6 - len(word)), rest(BestMix(3, (0, 0, 0)), 6, word))
        for goods, days in ((2, 250), (3, 40), (5, 10)):
            self.same(best_rest([0] * goods, days), best_price(goods, days))

    def test_just_so_many_counts_and_one_more(self):
        for goods, days in ((1, 250), (2, 250), (3, 98), (4, 29), (5, 16)):
            self.assertLess(0, fraction(best_rest([1] * goods, days)))
            if days < 250:
                self.assertLessEqual(math.comb(days + goods - 1, goods - 1), 5000)
                self.raises(COUNTS, best_rest, [1] * goods, days + 1)
                self.raises(COUNTS, best_rest, [1000] * goods, 250)
        self.assertLess(0, fraction(best_rest([1000] * 5, 16)))

    def test_wrong_arguments(self):
        for value in NO_COUNTS:
            for days in (2, -1, None):
                self.raises(BadNumber("counts"), best_rest, value, days)
        for value in NO_PRICED_DAYS:
            self.raises(BadNumber("days"), best_rest, (1, 2), value)
            # The days are told ahead of their counts.
            self.raises(BadNumber("days"), best_rest, (1, 2, 3, 4, 5), value)


if __name__ == "__main__":
    unittest.main()
