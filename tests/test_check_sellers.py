"""hindprice.check_sellers."""

import random
import unittest
from fractions import Fraction

from hindprice.check_sellers import shows_seller
from hindprice.errors import BadNumber, BadPromise, BadSeller, TooMany
from hindprice.papers import Denial, Paper
from hindprice.promises import BestMix, Greatest, Hold, Times
from hindprice.robbers import Robbed, Safe, judged_seller, robbed
from hindprice.sellers import Seller
from hindprice.walks import Walked
from tests import oracle
from tests.support import NO_NUMBERS, STRANGE, Case, fraction, listed, told
from tests.test_prices import NO_LENGTHS
from tests.test_promises import NO_PROMISES
from tests.test_robbers import JUST, some
from tests.test_sellers import EVEN, NO_SELLERS, ROW, had

BEST, CALM = BestMix(2, (0, 0)), Greatest([Hold(2, 0), Hold(2, 1)])
WORDS = TooMany("words", 4096)


class OtherSafe(Paper):
    def __init__(self):
        Paper.__init__(self, "safe")


class BelowSafe(Safe):
    pass


class BelowRobbed(Robbed):
    pass


NO_PAPERS = STRANGE + [0, (), "safe", Paper("safe"), Denial("safe"), OtherSafe(), BelowSafe(), Walked((), 1), Safe, Robbed]


class Right(Case):
    def test_all_words(self):
        for _, promise, days, seller in some(151, 200):
            short = 0
            for word in oracle.words(promise.goods, days):
                here, owed = told(had(seller, word)), told(oracle.worth_at(promise, word))
                wanted = fraction(here) < fraction(owed)
                short += wanted
                self.assertIs(shows_seller(promise, days, seller, Robbed(word, here, owed)), wanted)
                paper = Robbed(list(word), listed(here), listed(owed))
                self.assertIs(shows_seller(promise=promise, days=days, seller=seller, value=paper), wanted)
                self.assertIs(shows_seller(promise, days, seller, Robbed(word, owed, here)), False)
            self.assertIs(shows_seller(promise, days, seller, Safe()), short == 0)

    def test_what_is_returned(self):
        for _, promise, days, seller in some(152, 150):
            self.assertIs(shows_seller(promise, days, seller, judged_seller(promise, days, seller)), True)
            if fraction(seller.purse) < oracle.price(promise, days):
                self.assertIs(shows_seller(promise, days, seller, robbed(promise, days, seller)), True)

    def test_words_at_which_it_is_not_robbed_good_by_good(self):
        self.assertIs(robbed(BEST, 2, EVEN).course == (0, 0), True)
        self.assertIs(shows_seller(BEST, 2, EVEN, Robbed((1, 1), (1, 2), 1)), True)


class Faults(Case):
    def wrong(self, promise, days, seller, values):
        for value in values:
            self.assertIs(shows_seller(promise, days, seller, value), False)

    def test_other_values(self):
        for seller in (JUST, EVEN):
            self.wrong(BEST, 2, seller, NO_PAPERS)
        self.wrong(BEST, 2, EVEN, [
            Paper("robbed", (0, 0), (1, 2), 1), Denial("robbed", (0, 0), (1, 2), 1), BelowRobbed((0, 0), (1, 2), 1),
            ((0, 0), (1, 2), 1), Safe()])
        self.wrong(BEST, 2, JUST, [Robbed((0, 0), 1, 1), Robbed((0, 0), (1, 2), 1), Robbed((), (5, 2), (5, 2))])
        # Made by calling Safe, whatever it is told, is right for a safe seller alone.
        self.assertIs(shows_seller(BEST, 2, JUST, Safe()), True)

    def test_words(self):
        right = Robbed((0, 0), (1, 2), 1)
        self.assertIs(shows_seller(BEST, 2, EVEN, right), True)
        self.wrong(BEST, 2, EVEN, [Robbed(word, (1, 2), 1) for word in STRANGE + [
            (), (0,), (0, 0, 0), (0, 1), (0, 2), (-1, 0), (False, 0), (0, False), (0.0, 0), ("0", 0), "00", (0, (0,)), ((0, 0),),
            0, (None, 0)]])

    def test_numbers(self):
        self.wrong(BEST, 2, EVEN, [Robbed((0, 0), value, 1) for value in NO_NUMBERS + [
            0, 1, 2, (1, 3), (3, 2), (2, 4), 0.5, Fraction(1, 2), (1, 2, 1), ((1, 2),), -1, (-1, 2), (1.0, 2)]])
        self.wrong(BEST, 2, EVEN, [Robbed((0, 0), (1, 2), value) for value in NO_NUMBERS + [
            0, 2, (1, 2), (2, 2), (1, 1), 1.0, Fraction(1), True, -1, "1"]])

    def test_true_stands_for_no_number(self):
        seller = Seller(0, [((1, 0), (0, 0))])
        self.assertIs(shows_seller(CALM, 1, seller, Robbed((1,), 0, 1)), True)
        self.wrong(CALM, 1, seller, [Robbed((True,), 0, 1), Robbed((1,), False, 1), Robbed((1,), 0, True)])

    def test_without_days(self):
        self.assertIs(shows_seller(BEST, 0, Seller((1, 2), [ROW]), Robbed([], (1, 2), 1)), True)
        self.assertIs(shows_seller(BEST, 0, Seller((1, 2), [ROW]), Safe()), False)
        self.assertIs(shows_seller(BEST, 0, Seller(1, [ROW]), Safe()), True)
        self.wrong(BEST, 0, Seller(1, [ROW]), [Robbed((), 1, 1)])

    def test_at_the_bound(self):
        seller = Seller(2, [ROW])
        self.assertIs(shows_seller(BEST, 12, seller, Safe()), False)
        self.assertIs(shows_seller(Times(0, BEST), 12, seller, Safe()), True)
        self.assertIs(shows_seller(BEST, 12, seller, Robbed((1,) * 12, (1, 2048), 1)), True)
        chance = random.Random(153)
        word = oracle.some_word(chance, 2, 12)
        here, owed = had(seller, word), oracle.worth_at(BEST, word)
        self.assertIs(shows_seller(BEST, 12, seller, Robbed(word, told(here), told(owed))), here < owed)


class WrongArguments(Case):
    def test_what_judged_seller_raises(self):
        papers = [Safe(), Robbed((0, 0), (1, 2), 1), None]
        for value in papers:
            for promise in NO_PROMISES:
                self.raises(BadPromise("promise"), shows_seller, promise, -1, None, value)
            for days in NO_LENGTHS:
                self.raises(BadNumber("days"), shows_seller, BEST, days, None, value)
            for seller in NO_SELLERS + [Seller(1, [((1,), (0,))]), Seller(1, [((1, 0, 0), (0, 0, 0))])]:
                self.raises(BadSeller("seller"), shows_seller, BEST, 13, seller, value)
            for days in (13, 1000):
                self.raises(WORDS, shows_seller, BEST, days, EVEN, value)
                self.raises(WORDS, shows_seller, Hold(2, 0), days, EVEN, value)


if __name__ == "__main__":
    unittest.main()
