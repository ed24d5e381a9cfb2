"""hindprice.betters."""

import math
import random
import unittest
from fractions import Fraction

from hindprice.betters import (
    Best, Outdone, best_stretch, bettered, judged_mix, means_of, shows_mix, within_factor)
from hindprice.errors import BadMarket, BadMix, BadNumber, Misfit
from hindprice.papers import Denial, Paper
from hindprice.promises import Mix
from hindprice.robbers import Safe
from hindprice.worths import worth
from tests import oracle
from tests.support import NO_NUMBERS, STRANGE, Case, fraction, listed, told

HALF = ((1, 2), (1, 2))
MARKET = [(2, 1), (1, 3)]
NO_ANY_MIX = STRANGE + [0, 1, (), [], (1, 1), (0, 0), (2, -1), ((2, 4), (1, 2)), (True, 0), (1, False), (1, None), "10",
                        ((1, 2), (1, 3)), (1, 0, 0, 0, 0, 0), [(1, 0)]]
NO_MARKETS = STRANGE + [0, 1, "12", [1], [()], [(1,)], [(1, 2, 3)], [(1, -1)], [(1, 2), (1,)], [(1, True)], [(1, (2, 4))],
                        (1, 2), [[(1, 2)]], [None]]
GREAT = 10 ** 40 - 1


def paying_market(chance, shares, days):
    """Days that all pay the mix above 0."""
    market = []
    while len(market) < days:
        day = oracle.some_day(chance, len(shares))
        if oracle.paid(shares, day) > 0:
            market.append(day)
    return market


def some(seed, many, goods=5, days=5):
    chance = random.Random(seed)
    for _ in range(many):
        shares = oracle.some_mix(chance, chance.randint(1, goods))
        yield chance, shares, paying_market(chance, shares, chance.randint(0, days))


def means(shares, market):
    """The means by hand."""
    if not market:
        return [Fraction(1)] * len(shares)
    return [sum(fraction(day[good]) / oracle.paid(shares, day) for day in market) / len(market)
            for good in range(len(shares))]


def run(shares, market):
    return math.prod((oracle.paid(shares, day) for day in market), start=Fraction(1))


def great(chance):
    """A number with 40 digits above and below the line."""
    return told(Fraction(chance.randint(10 ** 39, GREAT), chance.randint(10 ** 39, GREAT)))


class Means(Case):
    def test_by_hand(self):
        for _, shares, market in some(171, 300):
            wanted = means(shares, market)
            mixed = [fraction(share) * mean for share, mean in zip(shares, wanted)]
            self.same(means_of(shares, market), tuple(told(mean) for mean in wanted))
            self.same(bettered(shares, market), tuple(told(share) for share in mixed))
            self.same(within_factor(shares, market), told(max(wanted)))
            self.assertEqual(sum(mixed), 1)
            self.assertGreaterEqual(max(wanted), 1)
            self.assertGreaterEqual(run([told(share) for share in mixed], market), run(shares, market))
            for call in (means_of, bettered, within_factor):
                self.same(call(market=listed(market), shares=listed(shares)), call(shares, tuple(market)))

    def test_no_days_and_one_good(self):
        for shares in ((1,), HALF, (1, 0), (0, 0, 1), ((1, 5),) * 5):
            self.same(means_of(shares, ()), (1,) * len(shares))
            self.same(bettered(shares, []), tuple(shares))
            self.same(within_factor(shares, []), 1)
        self.same(means_of([1], [(3,), ((1, 2),)]), (1,))
        self.same(bettered([1], [(3,), ((1, 2),)]), (1,))

    def test_shares_of_0(self):
        self.same(means_of((1, 0), [(1, 2), (2, 1)]), (1, (5, 4)))
        self.same(bettered((1, 0), [(1, 2), (2, 1)]), (1, 0))
        self.same(means_of((0, 1, 0), [(0, 4, 1)]), (0, 1, (1, 4)))

    def test_no_mix_has_more_than_the_factor_lets(self):
        for chance, shares, market in some(172, 100, 3):
            other = oracle.some_mix(chance, len(shares))
            factor = fraction(within_factor(shares, market))
            self.assertLessEqual(run(other, market), factor ** len(market) * run(shares, market))


class Judged(Case):
    def check(self, shares, market):
        judged = judged_mix(shares, market)
        if max(means(shares, market)) <= 1:
            self.assertIs(judged == Best(), True)
        else:
            self.assertIs(type(judged), Outdone)
            self.assertLess(fraction(worth(Mix(shares), market)), fraction(worth(Mix(judged.shares), market)))
        self.assertIs(shows_mix(shares, market, judged), True)
        self.assertIs(judged_mix(market=listed(market), shares=listed(shares)) == judged, True)
        return bool(judged)

    def test_against_means(self):
        found = [self.check(shares, market) for _, shares, market in some(173, 400)]
        self.assertTrue(any(found))
        self.assertFalse(all(found))

    def test_best_inside_at_an_end_and_without_days(self):
        for shares, market in (
                (((1, 4), (3, 4)), MARKET), ((0, 1), [(1, 2)]), ((0, 1), [(0, 2)]), (HALF, []), (HALF, [(3, 3)]), ([1], [[7]]),
                ((0, 0, 1), [(1, 1, 1), (0, 0, 5)]), (HALF, [(1, 0), (0, 1)]), (((1, 3),) * 3, [(1, 0, 0), (0, 1, 0), (0, 0, 1)]),
                ((1, 0), [(1, 1)])):
            self.assertIs(self.check(shares, market), True)
            self.assertIs(shows_mix(shares, market, Best()), True)

    def test_not_best(self):
        for shares, market in (
                (HALF, MARKET), ((1, 0), MARKET), ((0, 1), MARKET), ((1, 0), [(1, 2)]), ((0, 1), [(2, 1)]),
                ((1, 0), [(1, 2), (1, (2, 3))]), (((1, 2), (1, 2), 0), [(1, 1, 2)]), ((1, 0), [(1, 0)] * 59 + [(1, 61)]),
                ((1, 0), [(1, 0), (1, GREAT)]), (((GREAT - 1, GREAT), (1, GREAT)), [(1, GREAT)])):
            self.assertIs(self.check(shares, market), False)
            self.assertIs(shows_mix(shares, market, Best()), False)

    def test_just_better(self):
        # The mean is above 1 by 1 over 40 digits: more than a little of the good would have less worth.
        for market in ([(1, 0), (1, (2 * GREAT + 1, GREAT))], [(1, (1, 2)), (1, told(Fraction(3, 2) + Fraction(1, GREAT)))]):
            self.assertIs(self.check((1, 0), market), False)
            self.assertIs(shows_mix((1, 0), market, Outdone(HALF)), False)

    def test_numbers_of_40_digits(self):
        chance = random.Random(174)
        for goods in (2, 5):
            market = [[great(chance) for _ in range(goods)] for _ in range(60)]
            for shares in ([(1, goods)] * goods, [1] + [0] * (goods - 1)):
                judged = judged_mix(shares, market)
                self.assertIs(shows_mix(shares, market, judged), True)
                self.assertIs(shows_mix(shares, market, Outdone(bettered(shares, market))),
                              bettered(shares, market) != tuple(shares))

    def test_what_was_returned(self):
        # A bettered mix, whatever its digits, is bettered and judged again.
        chance = random.Random(178)
        market = [[great(chance), great(chance)] for _ in range(7)]
        shares = ((1, 3), (2, 3))
        for _ in range(2):
            better = bettered(shares, market)
            self.assertIs(shows_mix(shares, market, Outdone(better)), True)
            judged = judged_mix(better, market)
            self.assertIs(shows_mix(better, market, judged), True)
            self.assertIs(shows_mix(shares, market, judged), True)
            self.assertLess(fraction(within_factor(better, market)), fraction(within_factor(shares, market)))
            shares = better

    def test_days_that_all_but_balance(self):
        # Ratios with unlike primes below the line whose mean is above 1 by less than any of them tells.
        primes = [10 ** 20 + 39, 10 ** 20 + 129, 10 ** 20 + 151, 10 ** 20 + 193, 10 ** 20 + 207]
        whole = math.prod(primes)
        tops = [pow(whole // prime, -1, prime) for prime in primes]
        extra = sum(Fraction(top, prime) for top, prime in zip(tops, primes)) - Fraction(1, whole)
        self.assertEqual(extra.denominator, 1)
        market = [(prime, top) for top, prime in zip(tops, primes)] + [(1, 6 - int(extra))]
        self.assertEqual(max(means((1, 0), market)), 1 + Fraction(1, 6 * whole))
        self.assertIs(self.check((1, 0), market), False)


class Shown(Case):
    def test_other_mixes(self):
        for chance, shares, market in some(175, 200, 4):
            here = run(shares, market)
            for _ in range(5):
                other = oracle.some_mix(chance, len(shares))
                wanted = run(other, market) > here
                self.assertIs(shows_mix(shares, market, Outdone(other)), wanted)
                self.assertIs(shows_mix(market=market, shares=listed(shares), value=Outdone(listed(other))), wanted)
            self.assertIs(shows_mix(shares, market, Best()), max(means(shares, market)) <= 1)

    def test_faults(self):
        right = Outdone([(1, 4), (3, 4)])
        self.assertIs(shows_mix(HALF, MARKET, right), True)

        class Below(Outdone):
            pass

        class BelowBest(Best):
            pass

        for value in STRANGE + [
                0, (), Best, Outdone, Paper("best"), Denial("outdone", ((1, 4), (3, 4))), Below(((1, 4), (3, 4))), Safe(),
                ((1, 4), (3, 4)), Best(), BelowBest(), Paper("outdone", ((1, 4), (3, 4)))]:
            self.assertIs(shows_mix(HALF, MARKET, value), False)
        for value in STRANGE + [
                0, 1, (), ((1, 4), (3, 4), 0), ((1, 4),), (0, 0), ((1, 4), (1, 2)), ((1, 4), (5, 4)), ((1, 2), 1), ((2, 8), (3, 4)),
                HALF, (1, 0), ((1, 4), None), (0.25, 0.75), ((3, 4), (1, 4)), (2, -1), (-1, 2), ((1, 4), ((3, 4),))]:
            self.assertIs(shows_mix(HALF, MARKET, Outdone(value)), False, value)
        # True and False stand for no number.
        self.assertIs(shows_mix((1, 0), [(1, 2)], Outdone((0, 1))), True)
        for value in ((0, True), (False, 1), (False, True)):
            self.assertIs(shows_mix((1, 0), [(1, 2)], Outdone(value)), False)
        # Of equal worth.
        self.assertIs(shows_mix((1, 0), [(1, 1)], Outdone((0, 1))), False)
        self.assertIs(shows_mix(HALF, [], Outdone((1, 0))), False)
        for value in (BelowBest(), Paper("best"), Safe(), Outdone((1, 0))):
            self.assertIs(shows_mix(HALF, [], value), False)

    def test_papers(self):
        self.same((Best().word, Best().parts, bool(Best())), ("best", (), True))
        paper = Outdone(shares=[[1, 2], [1, 2]])
        self.same((paper.word, paper.parts, paper.shares, bool(paper)), ("outdone", (HALF,), HALF, False))
        self.assertIsInstance(paper, Denial)
        self.assertNotIsInstance(Best(), Denial)
        self.assertIs(paper == Outdone(HALF), True)
        self.assertIs(paper == Outdone((1, 0)), False)
        self.assertIs(Outdone(None).shares, None)


def stretch(market, times):
    """The best stretch by hand."""
    low, high = Fraction(0), Fraction(1)
    for _ in range(times):
        share = (low + high) / 2
        slope = sum((fraction(one) - fraction(two)) / (share * fraction(one) + (1 - share) * fraction(two))
                    for one, two in market)
        if slope == 0:
            return (told(share), told(share))
        low, high = (share, high) if slope > 0 else (low, share)
    return (told(low), told(high))


class Stretch(Case):
    def test_by_hand(self):
        chance = random.Random(176)
        for _ in range(150):
            market = [day for day in oracle.some_market(chance, 2, chance.randint(0, 5)) if day != (0, 0)]
            for times in (0, 1, 2, 5, 9):
                self.same(best_stretch(market, times), stretch(market, times))
            self.same(best_stretch(times=60, market=listed(market)), stretch(market, 60))

    def test_at_once_neither(self):
        for market in ([], [(5, 5)], [(1, 2), (2, 1)], [((1, 2), 0), (0, (1, 2))], [(7, 7)] * 9):
            self.same(best_stretch(market, 0), (0, 1))
            for times in (1, 2, 60):
                self.same(best_stretch(market, times), ((1, 2), (1, 2)))

    def test_one_day_alone_and_days_alike(self):
        for many in (1, 2, 60):
            for times in (0, 1, 7, 60):
                self.same(best_stretch([(1, 2)] * many, times), (0, told(Fraction(1, 2 ** times))))
                self.same(best_stretch([((1, 2), 0)] * many, times), (told(1 - Fraction(1, 2 ** times)), 1))

    def test_a_best_mix_lies_in_it(self):
        low, high = best_stretch([(3, 1), (0, 1), (2, 5), (1, (1, 7))], 60)
        self.assertEqual(fraction(high) - fraction(low), Fraction(1, 2 ** 60))

    def test_in_a_short_time(self):
        chance = random.Random(177)
        market = [(great(chance), great(chance)) for _ in range(60)]
        low, high = best_stretch(market, 60)
        self.assertIn(fraction(high) - fraction(low), (0, Fraction(1, 2 ** 60)))

    def test_wrong_arguments(self):
        for value in NO_MARKETS:
            for times in (2, 61, None):
                self.raises(BadMarket("market"), best_stretch, value, times)
        for value in NO_NUMBERS + [-1, 61, (1, 2), 10 ** 40]:
            self.raises(BadNumber("times"), best_stretch, [(1, 2)], value)
            self.raises(BadNumber("times"), best_stretch, [(0, 0)], value)
        for market in ([(0, 0)], [(1, 2), [0, 0]], [(0, 0)] * 3):
            for times in (0, 60):
                self.raises(Misfit("market"), best_stretch, market, times)


class WrongArguments(Case):
    CALLS = [means_of, bettered, within_factor, judged_mix, lambda shares, market: shows_mix(shares, market, None),
             lambda shares, market: shows_mix(shares, market, Best())]

    def test_shares(self):
        for call in self.CALLS:
            for value in NO_ANY_MIX:
                for market in ([], MARKET, [(0, 0)], None):
                    self.raises(BadMix("shares"), call, value, market)

    def test_market(self):
        for call in self.CALLS:
            for value in NO_MARKETS:
                self.raises(BadMarket("market"), call, HALF, value)
            # A wrong day stands ahead of one that pays 0.
            self.raises(BadMarket("market"), call, (1, 0), [(0, 1), (1, 2, 3)])
            self.raises(BadMarket("market"), call, [1], [(1, 2)])

    def test_days_that_pay_0(self):
        for call in self.CALLS:
            for shares, market in (((1, 0), [(0, 1)]), (HALF, [(1, 1), (0, 0)]), ([1], [(0,)]), ((0, 1, 0), [(3, 0, 2)])):
                self.raises(Misfit("market"), call, shares, market)
                self.raises(Misfit("market"), call, listed(shares), tuple(market))


if __name__ == "__main__":
    unittest.main()
