"""hindprice.days."""

import unittest
from fractions import Fraction
from math import prod

from hindprice.days import is_day, is_market, is_mix, lightning, lightnings, paid, run
from hindprice.errors import BadDay, BadMarket, BadMix, BadNumber, BadWord
from tests.support import NO_NUMBERS, STRANGE, Case, fraction, listed, told

NO_GOODS = NO_NUMBERS + [0, 6, -1, (1, 2), 10 ** 40]
BELOW = [-1, (-1, 2), -(10 ** 40)]
ROW = [2, (1, 2), 0, [7, 3], 10 ** 40]
MIXES = [(1,), ((1, 2), (1, 2)), ((1, 3), 0, (2, 3)), (0, 0, 0, 1), ((1, 2), (1, 4), (1, 8), (1, 16), (1, 16))]


def days(goods):
    return [tuple(ROW[:goods]), ROW[-goods:], [0] * goods, (1,) * goods]


def wrong_rows(row):
    """The row with one thing wrong."""
    for wrong in NO_NUMBERS + BELOW:
        for at in range(len(row)):
            yield [*row[:at], wrong, *row[at + 1:]]
    yield [*row, 0]
    yield row[:-1]


class Kinds(Case):
    def test_days(self):
        for goods in range(1, 6):
            for day in days(goods):
                self.assertIs(is_day(day, goods), True)
                self.assertIs(is_day(goods=goods, value=listed(day)), True)
                for other in range(1, 6):
                    self.assertIs(is_day(day, other), other == goods)
                for wrong in wrong_rows(list(day)):
                    self.assertIs(is_day(wrong, goods), False, repr(wrong))
            for wrong in STRANGE + [0, 1, (), []]:
                self.assertIs(is_day(wrong, goods), False, repr(wrong))

    def test_markets(self):
        for goods in range(1, 6):
            market = days(goods)
            for value in ([], (), market, tuple(market), market * 20, listed(market)):
                self.assertIs(is_market(value, goods), True)
            self.assertIs(is_market(value=market, goods=goods), True)
            for other in range(1, 6):
                self.assertIs(is_market(market, other), other == goods)
            for wrong in [*wrong_rows(list(market[0])), *STRANGE, 0, 1]:
                for value in ([wrong], [wrong, *market], (*market, wrong)):
                    self.assertIs(is_market(value, goods), False, repr(value))
            for wrong in STRANGE + [0, 1, (1,) * goods]:
                self.assertIs(is_market(wrong, goods), False, repr(wrong))

    def test_mixes(self):
        for mix in MIXES:
            goods = len(mix)
            self.assertIs(is_mix(mix, goods), True)
            self.assertIs(is_mix(goods=goods, value=listed(mix)), True)
            for other in range(1, 6):
                self.assertIs(is_mix(mix, other), other == goods)
            for wrong in [*wrong_rows(list(mix)), *STRANGE, 0, 1]:
                self.assertIs(is_mix(wrong, goods), False, repr(wrong))
            self.assertIs(is_mix((*mix[:-1], (1, 7)), goods), False)
            self.assertIs(is_mix([0] * goods, goods), False)
        for wrong in ((2, -1), ((3, 2), (-1, 2)), ((2, 4), (1, 2)), (1, 1), (0, 0), (True, 0), ((1, 2), (1, 3))):
            self.assertIs(is_mix(wrong, 2), False)

    def test_sums_just_beside_1(self):
        great = 10 ** 40
        for top in (-1, 0, 1):
            mix = [(1, 2), told(Fraction(1, 2) + Fraction(top, great))]
            self.assertIs(is_mix(mix, 2), top == 0)

    def test_goods(self):
        for call in (is_day, is_market, is_mix):
            for wrong in NO_GOODS:
                self.raises(BadNumber("goods"), call, (1,), wrong)
                self.raises(BadNumber("goods"), call, None, goods=wrong)


class Lightnings(Case):
    def test_lightning(self):
        for goods in range(1, 6):
            for good in range(goods):
                day = lightning(goods, good)
                self.same(day, tuple(int(at == good) for at in range(goods)))
                self.same(lightning(good=good, goods=goods), day)

    def test_lightnings(self):
        self.same(lightnings(3, [2, 0, 2]), ((0, 0, 1), (1, 0, 0), (0, 0, 1)))
        self.same(lightnings(word=(0, 0), goods=1), ((1,), (1,)))
        for goods in range(1, 6):
            self.same(lightnings(goods, []), ())
            self.same(lightnings(goods, tuple(range(goods))), tuple(lightning(goods, good) for good in range(goods)))

    def test_wrong_goods(self):
        for wrong in NO_GOODS:
            self.raises(BadNumber("goods"), lightning, wrong, 0)
            self.raises(BadNumber("goods"), lightning, wrong, None)
            self.raises(BadNumber("goods"), lightnings, wrong, [])
            self.raises(BadNumber("goods"), lightnings, wrong, None)
        for wrong in NO_NUMBERS + [-1, 3, (1, 2), 10 ** 40]:
            self.raises(BadNumber("good"), lightning, 3, wrong)
            self.raises(BadWord("word"), lightnings, 3, [wrong])
            self.raises(BadWord("word"), lightnings, 3, (0, 1, wrong, 2))
        for wrong in STRANGE + [0, 1, "01"]:
            self.raises(BadWord("word"), lightnings, 3, wrong)


class Paying(Case):
    def test_paid(self):
        for mix in MIXES:
            for day in days(len(mix)):
                wanted = told(sum(fraction(one) * fraction(other) for one, other in zip(mix, day)))
                self.same(paid(mix, day), wanted)
                self.same(paid(day=listed(day), shares=listed(mix)), wanted)

    def test_run(self):
        for mix in MIXES:
            for market in ([], days(len(mix))[:2], days(len(mix))[1:2] * 60, days(len(mix))):
                wanted = told(prod([fraction(paid(mix, day)) for day in market]))
                self.same(run(mix, market), wanted)
                self.same(run(market=tuple(market), shares=listed(mix)), wanted)

    def test_wrong_mixes(self):
        for mix in MIXES:
            for wrong in wrong_rows(list(mix)):
                if wrong[:-1] != list(mix) or len(mix) == 5:
                    self.raises(BadMix("shares"), paid, wrong, (1,) * len(mix))
                    self.raises(BadMix("shares"), run, wrong, None)
        for wrong in STRANGE + [0, 1, (), [], (1, 0, 0, 0, 0, 0), (0,), (1, 1)]:
            self.raises(BadMix("shares"), paid, wrong, None)
            self.raises(BadMix("shares"), run, wrong, [])

    def test_wrong_days(self):
        for mix in MIXES:
            for wrong in wrong_rows([1] * len(mix)):
                self.raises(BadDay("day"), paid, mix, wrong)
                self.raises(BadMarket("market"), run, mix, [wrong])
                self.raises(BadMarket("market"), run, mix, [[1] * len(mix), wrong])
            for wrong in STRANGE + [0, 1]:
                self.raises(BadDay("day"), paid, mix, wrong)
                self.raises(BadMarket("market"), run, mix, wrong)
                self.raises(BadMarket("market"), run, mix, (wrong,))

    def test_what_is_passed_stays(self):
        mix, market = [[1, 2], [1, 2]], [[2, [1, 3]]]
        run(mix, market)
        paid(mix, market[0])
        self.same([mix, market], [[[1, 2], [1, 2]], [[2, [1, 3]]]])


if __name__ == "__main__":
    unittest.main()
