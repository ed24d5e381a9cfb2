"""hindprice.afters."""

import random
import unittest

from hindprice.afters import after_day, after_good, after_word
from hindprice.errors import BadDay, BadNumber, BadPromise, BadWord, Misfit
from hindprice.machines import Machine
from hindprice.prices import price
from hindprice.promise_texts import promise_text
from hindprice.promises import BestMix, BestWalk, Greatest, Hold, Mix, Sum, Then, Times, all_in, parts_of
from hindprice.worths import has_best, named, worth, worth_at
from tests import oracle
from tests.support import STRANGE, Case, listed, told
from tests.test_promises import NO_GOODS, NO_PROMISES

ONE, TWO = Hold(2, 0), Hold(2, 1)
HALF = ((1, 2), (1, 2))
CHAIN = Machine([(1, 0), (0, 1)], [(0, 0), (0, 1), (1, 1)])
WALK, BEST = BestWalk(CHAIN, (1, 0)), BestMix(2, (0, 0))
NO_DAYS = STRANGE + [0, 1, (), (1,), [1, 2, 3], (1, -1), (1, True), (1, (2, 4)), (1, None), "12", [(1, 2)], (1, (1, 2, 3))]


class Days(Case):
    def check(self, promise, market):
        """What is left behind each beginning is worth, at the days behind it, what the promise is at all."""
        left = promise
        wanted = told(oracle.worth(promise, market))
        for at, day in enumerate(market):
            left = after_day(left, day)
            self.same(worth(left, market[at + 1:]), wanted)
            self.same(left.goods, promise.goods)
            self.same(left.many, len(all_in(left)))
            self.same(left.levels, 1 + max([part.levels for part in parts_of(left)], default=0))

    def test_each_kind(self):
        days = [(3, (1, 2)), (1, 4), (0, 0), ((5, 3), 1)]
        for promise in (ONE, Mix(HALF), Times((3, 2), TWO), Times(0, ONE), Sum([ONE, TWO]), Greatest([ONE, Mix(HALF)]),
                        Then(0, ONE, TWO), Then(2, ONE, TWO), Then(9, ONE, TWO), WALK, BestWalk(CHAIN, ((1, 2), 9)),
                        Then(1, Then(1, TWO, ONE), Then(0, WALK, Times(2, WALK))), Times(2, Times(3, Times((1, 7), ONE)))):
            for many in range(5):
                self.check(promise, days[:many])
                self.check(promise, days[::-1][:many])

    def test_some(self):
        chance = random.Random(81)
        for _ in range(250):
            goods = chance.randint(1, 3)
            promise = oracle.some_promise(chance, goods, best=False)
            self.check(promise, oracle.some_market(chance, goods, chance.randint(1, 5)))

    def test_other_days_behind(self):
        chance = random.Random(82)
        for _ in range(150):
            goods = chance.randint(1, 3)
            promise = oracle.some_promise(chance, goods, best=False)
            day = oracle.some_day(chance, goods)
            left = after_day(promise, listed(day))
            for many in range(4):
                market = oracle.some_market(chance, goods, many)
                self.same(worth(left, market), told(oracle.worth(promise, (day, *market))))

    def test_a_day_of_0s(self):
        for promise in (ONE, Mix(HALF), Sum([ONE, TWO]), Greatest([Times(5, ONE), TWO]), WALK, Then(1, ONE, TWO)):
            left = after_day(promise, (0, 0))
            self.same((worth(left, []), worth(left, [(7, 7)] * 3)), (0, 0))

    def test_many_days_behind_one_another(self):
        promise = Greatest([Sum([ONE, Times(2, Mix(HALF))]), Then(30, WALK, TWO), WALK])
        market = [((at % 5, 3) if at % 5 % 3 else at % 5, 1 + at % 2) for at in range(60)]
        left = promise
        for day in market:
            left = after_day(left, day)
        self.same(worth(left, []), worth(promise, market))

    def test_returned_ones_are_passed_on(self):
        deep = Sum([Greatest([Sum([Greatest([Sum([ONE, TWO])])])])])
        left = deep
        for _ in range(3):
            left = after_day(left, (2, (1, 3)))
        self.same(deep.levels, 6)
        self.same((worth(left, [(1, 1)]), worth_at(left, (1,)), price(left, 2)), ((217, 27), (1, 27), (217, 27)))
        self.assertIsInstance(promise_text(left), str)
        wide = Sum([Sum([ONE] * 6)] * 5 + [Sum([TWO] * 3)])
        left = after_day(after_day(wide, (2, 2)), (3, (1, 3)))
        self.same((wide.many, worth(left, [])), (40, 182))
        self.same(worth(after_good(left, 0), ()), 180)

    def test_wrong_arguments(self):
        for value in NO_PROMISES:
            self.raises(BadPromise("promise"), after_day, value, (1, 1))
            self.raises(BadPromise("promise"), after_day, value, None)
        for value in NO_DAYS:
            self.raises(BadDay("day"), after_day, ONE, value)
            self.raises(BadDay("day"), after_day, BEST, value)
        for promise in (BEST, Sum([ONE, BEST]), Then(5, ONE, Times(0, BEST))):
            self.raises(Misfit("promise"), after_day, promise, (1, 0))
        self.assertIs(after_day(promise=ONE, day=[1, 0]) == after_day(ONE, (1, 0)), True)

    def test_nothing_changes(self):
        day = [[1, 2], 3]
        promise = Sum([ONE, WALK])
        left = after_day(promise, day)
        day[0][0] = 9
        self.same(worth(left, []), 1)
        self.assertIs(promise == Sum([Hold(2, 0), BestWalk(CHAIN, (1, 0))]), True)


class Words(Case):
    def test_some(self):
        chance = random.Random(83)
        for _ in range(300):
            goods = chance.randint(1, 3)
            promise = oracle.some_promise(chance, goods)
            word = oracle.some_word(chance, goods, chance.randint(0, 5))
            wanted = told(oracle.worth_at(promise, word))
            left = promise
            for at, good in enumerate(word):
                left = after_good(left, good)
                self.same(worth_at(left, word[at + 1:]), wanted)
                self.same(worth_at(after_word(promise, list(word[:at + 1])), word[at + 1:]), wanted)
            self.same(worth_at(after_word(after_word(promise, word[:2]), word[2:]), ()), wanted)
            self.assertIs(has_best(left), has_best(promise))

    def test_other_words_behind(self):
        chance = random.Random(84)
        for _ in range(150):
            goods = chance.randint(1, 3)
            promise = oracle.some_promise(chance, goods)
            begun = oracle.some_word(chance, goods, chance.randint(0, 3))
            left = after_word(promise, begun)
            for many in range(3):
                for word in oracle.words(goods, many):
                    self.same(worth_at(left, word), told(oracle.worth_at(promise, (*begun, *word))))

    def test_markets_behind_words(self):
        chance = random.Random(85)
        for _ in range(150):
            goods = chance.randint(1, 3)
            promise = oracle.some_promise(chance, goods, best=False)
            begun = oracle.some_word(chance, goods, chance.randint(0, 3))
            market = oracle.some_market(chance, goods, chance.randint(0, 3))
            wanted = told(oracle.worth(promise, (*oracle.lightnings(goods, begun), *market)))
            self.same(worth(after_word(promise, begun), market), wanted)

    def test_without_goods(self):
        for promise in (ONE, WALK, BEST, Sum([BEST, WALK])):
            left = after_word(promise, ())
            for word in oracle.words(2, 3):
                self.same(worth_at(left, word), worth_at(promise, word))

    def test_counts_above_those_that_callers_may_make(self):
        left = after_word(BestMix(2, (1000, 999)), (0, 1, 1))
        self.assertEqual(worth_at(left, (1,)), worth_at(BestMix(2, (1000, 999)), (0, 1, 1, 1)))
        self.same(worth(named(after_good(BestMix(2, (1000, 0)), 0), [(1, 0)]), [(3, 0)]), 3)

    def test_wrong_arguments(self):
        for value in NO_PROMISES:
            self.raises(BadPromise("promise"), after_good, value, 0)
            self.raises(BadPromise("promise"), after_good, value, -1)
            self.raises(BadPromise("promise"), after_word, value, (0,))
            self.raises(BadPromise("promise"), after_word, value, None)
        for value in STRANGE + NO_GOODS + [2, 5]:
            if repr(value) != "0":
                self.raises(BadNumber("good"), after_good, ONE, value)
        for value in STRANGE + [0, [2], [-1], (True,), [0, None], "01", (0, 1, 2)]:
            self.raises(BadWord("word"), after_word, ONE, value)
        self.assertIs(after_good(promise=BEST, good=1) == after_word(promise=BEST, word=[1]), True)


class EqualAnswers(Case):
    def test_a_call_made_again_returns_an_equal_one(self):
        chance = random.Random(86)
        for _ in range(100):
            goods = chance.randint(1, 3)
            promise = oracle.some_promise(chance, goods)
            word = oracle.some_word(chance, goods, 3)
            self.assertIs(after_word(promise, word) == after_word(promise, list(word)), True)
            if not has_best(promise):
                day = oracle.some_day(chance, goods)
                self.assertIs(after_day(promise, day) == after_day(promise, listed(day)), True)


if __name__ == "__main__":
    unittest.main()
