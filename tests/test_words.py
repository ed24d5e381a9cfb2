"""hindprice.words."""

import itertools
import unittest
from collections import Counter
from math import factorial, prod

from hindprice.errors import BadMarket, BadNumber, BadWord, Misfit, TooMany
from hindprice.words import all_counts, counts_of, ways, weight_of, words_of
from tests.support import NO_NUMBERS, STRANGE, Case, fraction, told

NO_GOODS = NO_NUMBERS + [0, 6, -1, (1, 2), 10 ** 40]
NO_DAYS = NO_NUMBERS + [-1, 1001, (1, 2), 10 ** 40]


class Words(Case):
    def test_all_in_order(self):
        for goods in range(1, 6):
            for days in range(6 if goods < 5 else 5):
                wanted = tuple(itertools.product(range(goods), repeat=days))
                self.same(words_of(goods, days), wanted)
                self.same(words_of(days=days, goods=goods), wanted)
                self.same(wanted, tuple(sorted(wanted)))

    def test_as_many_as_are_let(self):
        for goods, most in ((2, 12), (3, 7), (4, 6), (5, 5)):
            self.assertEqual(len(words_of(goods, most)), goods ** most)
            self.raises(TooMany("words", 4096), words_of, goods, most + 1)
            self.raises(TooMany("words", 4096), words_of, goods, 1000)
        self.same(words_of(1, 1000), ((0,) * 1000,))

    def test_wrong_numbers(self):
        for wrong in NO_GOODS:
            self.raises(BadNumber("goods"), words_of, wrong, 1)
            self.raises(BadNumber("goods"), words_of, wrong, None)
        for wrong in NO_DAYS:
            self.raises(BadNumber("days"), words_of, 2, wrong)


class Weights(Case):
    def test_weights(self):
        market = [(2, 1, 0), [[1, 2], 3, (1, 3)], ((7, 2), 0, 5)]
        for many in range(4):
            for word in words_of(3, many):
                wanted = told(prod(fraction(day[good]) for day, good in zip(market, word)))
                self.same(weight_of(market[:many], word), wanted)
                self.same(weight_of(word=list(word), market=tuple(market[:many])), wanted)

    def test_no_days(self):
        self.same([weight_of([], []), weight_of((), ())], [1, 1])
        for good in range(5):
            self.raises(Misfit("word"), weight_of, [], [good])
        for wrong in NO_NUMBERS + [5, -1, (1, 2)]:
            self.raises(BadWord("word"), weight_of, [], [wrong])
            self.raises(BadWord("word"), weight_of, [], [0, wrong])

    def test_each_number_of_goods(self):
        for goods in range(1, 6):
            market = [tuple(range(goods))] * 2
            self.same(weight_of(market, (goods - 1, goods - 1)), (goods - 1) ** 2)
            self.raises(BadWord("word"), weight_of, market, (0, goods))

    def test_wrong_markets(self):
        for wrong in STRANGE + [1, [()], [[]], [(1,) * 6], [(1, 2), (1,)], [(1,), (1, 2)], [(1, -1)], [(1, True)], [1],
                                [(1, 2), None], [None, (1, 2)], [(1, (4, 2))], [(1, 2), (1, 2, 3)], ["12"]]:
            self.raises(BadMarket("market"), weight_of, wrong, (0,))
            self.raises(BadMarket("market"), weight_of, wrong, None)

    def test_wrong_words(self):
        for wrong in STRANGE + [0, 1]:
            self.raises(BadWord("word"), weight_of, [(1, 2)], wrong)
            self.raises(BadWord("word"), weight_of, [], wrong)
        for wrong in NO_NUMBERS + [2, -1, (1, 2)]:
            self.raises(BadWord("word"), weight_of, [(1, 2)], [wrong])
            self.raises(BadWord("word"), weight_of, [(1, 2)], [0, 1, wrong])
        for word in ((), (0, 1), (1, 1, 1)):
            self.raises(Misfit("word"), weight_of, [(1, 2)], word)


class Counts(Case):
    def test_counts_of_words(self):
        for goods in range(1, 4):
            for days in range(5):
                for word in words_of(goods, days):
                    counted = Counter(word)
                    wanted = tuple(counted[good] for good in range(goods))
                    self.same(counts_of(goods, word), wanted)
                    self.same(counts_of(word=list(word), goods=goods), wanted)
        self.same(counts_of(5, [4] * 1500), (0, 0, 0, 0, 1500))

    def test_wrong_words(self):
        for wrong in NO_GOODS:
            self.raises(BadNumber("goods"), counts_of, wrong, None)
            self.raises(BadNumber("goods"), counts_of, wrong, [])
        for wrong in NO_NUMBERS + [3, -1, (1, 2)]:
            self.raises(BadWord("word"), counts_of, 3, [wrong])
            self.raises(BadWord("word"), counts_of, 3, (0, wrong, 2))
        for wrong in STRANGE + [0, 1]:
            self.raises(BadWord("word"), counts_of, 3, wrong)

    def test_all_in_order(self):
        for goods in range(1, 6):
            for days in range(7):
                rows = itertools.product(range(days + 1), repeat=goods)
                wanted = tuple(row for row in rows if sum(row) == days)
                self.same(all_counts(goods, days), wanted)
                self.same(all_counts(days=days, goods=goods), wanted)

    def test_as_many_as_are_let(self):
        for goods, most, many in ((1, 1000, 1), (2, 1000, 1001), (3, 98, 4950), (4, 29, 4960), (5, 16, 4845)):
            found = all_counts(goods, most)
            self.assertEqual(len(found), many)
            self.assertEqual(list(found), sorted(set(found)))
            if goods > 2:
                self.raises(TooMany("counts", 5000), all_counts, goods, most + 1)
                self.raises(TooMany("counts", 5000), all_counts, goods, 1000)

    def test_wrong_numbers(self):
        for wrong in NO_GOODS:
            self.raises(BadNumber("goods"), all_counts, wrong, 1)
            self.raises(BadNumber("goods"), all_counts, wrong, None)
        for wrong in NO_DAYS:
            self.raises(BadNumber("days"), all_counts, 5, wrong)


class Ways(Case):
    def test_as_many_as_words(self):
        for goods in range(1, 4):
            for days in range(5):
                found = Counter(counts_of(goods, word) for word in words_of(goods, days))
                for counts in all_counts(goods, days):
                    self.same(ways(counts), found[counts])
                    self.same(ways(counts=list(counts)), found[counts])

    def test_great_ones(self):
        for counts in ((1000,), (0, 1000), (500, 500), (200,) * 5, (1, 0, 999, 0, 0), (7, 90, 300, 3)):
            wanted = factorial(sum(counts)) // prod(factorial(count) for count in counts)
            self.same(ways(counts), wanted)

    def test_wrong_counts(self):
        for wrong in STRANGE + [0, 1, (), [], (0,) * 6, (1001,), (500, 501), (1000, 1), (200, 200, 200, 200, 201)]:
            self.raises(BadNumber("counts"), ways, wrong)
        for wrong in NO_NUMBERS + [-1, (1, 2), -1000]:
            for counts in ((wrong,), [wrong, 1], (1, 2, wrong, 4, 5)):
                self.raises(BadNumber("counts"), ways, counts)
        self.raises(BadNumber("counts"), ways, (1002, -2))


if __name__ == "__main__":
    unittest.main()
