"""hindprice.figures."""

import unittest
from fractions import Fraction
from math import comb

from hindprice.errors import BadNumber
from hindprice.figures import choose, doublings, figures_of
from tests.support import NO_NUMBERS, Case, fraction, told

GREAT = 10 ** 40


class Lots(Case):
    def test_small_ones(self):
        for many in range(12):
            for some in range(many + 1):
                self.same(choose(many, some), comb(many, some))
        for many in range(11):
            for some in range(many):
                self.same(choose(many, some) + choose(many, some + 1), choose(many + 1, some + 1))

    def test_bounds(self):
        self.same([choose(0, 0), choose(1000, 0), choose(1000, 1000), choose(1000, 1)], [1, 1, 1, 1000])
        self.same(choose(some=500, many=1000), comb(1000, 500))

    def test_wrong_numbers(self):
        for wrong in NO_NUMBERS + [-1, 1001, GREAT, (1, 2)]:
            self.raises(BadNumber("many"), choose, wrong, 0)
            self.raises(BadNumber("many"), choose, wrong, None)
        for wrong in NO_NUMBERS + [-1, 6, GREAT, (1, 2)]:
            self.raises(BadNumber("some"), choose, 5, wrong)
        self.raises(BadNumber("some"), choose, 0, 1)
        self.raises(BadNumber("some"), choose, 1000, 1001)


class Doublings(Case):
    def test_around_powers_of_two(self):
        self.same([doublings(1), doublings(2), doublings(3), doublings(4), doublings(5)], [0, 1, 2, 2, 3])
        for many in range(1, 130):
            power = 2 ** many
            self.same(doublings(power), many)
            self.same(doublings(power + 1), many + 1)
            self.same(doublings(told(power + Fraction(1, GREAT))), many + 1)
            self.same(doublings(told(power - Fraction(1, GREAT))), many)
            self.same(doublings([2 * power + 1, 2]), many + 1)

    def test_least(self):
        for top in range(1, 40):
            for bottom in range(1, 12):
                many = doublings(told(Fraction(top, bottom)))
                self.assertGreaterEqual(2 ** many, Fraction(top, bottom))
                self.assertTrue(many == 0 or 2 ** (many - 1) < Fraction(top, bottom))

    def test_below_1(self):
        for number in ((1, 2), (1, 7), (6, 7), (1, GREAT), told(Fraction(GREAT - 1, GREAT))):
            self.same(doublings(number=number), 0)
        self.same(doublings(told(Fraction(GREAT + 1, GREAT))), 1)

    def test_wrong_numbers(self):
        for wrong in NO_NUMBERS + [0, -1, (-1, 2), -GREAT]:
            self.raises(BadNumber("number"), doublings, wrong)


class Figures(Case):
    def test_figures(self):
        for bottom in (1, 2, 3, 5, 7, 8, 20, GREAT):
            for top in [*range(min(bottom, 20)), bottom - 1]:
                number = told(Fraction(top, bottom))
                for many in (0, 1, 2, 5, 13, 200):
                    figures = figures_of(number, many)
                    self.assertEqual(len(figures), many)
                    self.assertLessEqual(set(figures), {"0", "1"})
                    self.assertEqual(int("0" + figures, 2), fraction(number) * 2 ** many // 1)
                    self.assertEqual(figures, figures_of(number, many + 1)[:many])

    def test_bounds(self):
        self.same([figures_of(0, 0), figures_of([1, 3], 0), figures_of(many=3, number=0)], ["", "", "000"])
        self.same(figures_of((1, 2), 1000), "1" + "0" * 999)
        self.same(figures_of((2, 3), 1000), "10" * 500)
        self.same(figures_of((GREAT - 1, GREAT), 132), "1" * 132)
        self.same(figures_of((2 ** 120 - 1, 2 ** 120), 122), "1" * 120 + "00")

    def test_wrong_numbers(self):
        for wrong in NO_NUMBERS + [1, -1, 2, (-1, 2), (3, 2), (GREAT + 1, GREAT)]:
            self.raises(BadNumber("number"), figures_of, wrong, 3)
            self.raises(BadNumber("number"), figures_of, wrong, -1)
        for wrong in NO_NUMBERS + [-1, 1001, (1, 2), GREAT]:
            self.raises(BadNumber("many"), figures_of, (1, 2), wrong)


if __name__ == "__main__":
    unittest.main()
