"""hindprice.worths."""

import random
import unittest

from hindprice.errors import BadMarket, BadMix, BadPromise, BadWord, Misfit
from hindprice.machines import Machine
from hindprice.promises import BestMix, BestWalk, Greatest, Hold, Mix, Promise, Sum, Then, Times, all_in
from hindprice.worths import has_best, named, worth, worth_at
from tests import oracle
from tests.support import STRANGE, Case, listed, told
from tests.test_promises import NO_PROMISES, deep

ONE, TWO = Hold(2, 0), Hold(2, 1)
HALF = ((1, 2), (1, 2))
CHAIN = Machine([(1, 0), (0, 1)], [(0, 0), (0, 1), (1, 1)])
WALK, BEST = BestWalk(CHAIN, (1, 0)), BestMix(2, (0, 0))
GREAT = 10 ** 39
NO_MARKETS = STRANGE + [0, 1, "12", [1], [()], [(1,)], [(1, 2, 3)], [(1, -1)], [(1, 2), (1,)], [(1, True)], [(1, (2, 4))],
                        [(1, 2), None], ((1, 2), (3, 4), (5, (-1, 2))), (1, 2), [(1, 1.0)], {(1, 2): 1}]
NO_WORDS = STRANGE + [0, "01", [2], [-1], [0, 1, 2], (True,), (0, False), [(0,)], [None], [1.0], [(1, 2)], {0: 1}]


class AtMarkets(Case):
    def test_each_kind_by_hand(self):
        days = [(3, (1, 2)), (1, 4), (0, (5, 3))]
        for promise, worths in (
                (ONE, [1, 3, 3, 0]), (TWO, [1, (1, 2), 2, (10, 3)]), (Mix(HALF), [1, (7, 4), (35, 8), (175, 48)]),
                (Times((3, 2), TWO), [(3, 2), (3, 4), 3, 5]), (Sum([ONE, TWO, ONE]), [3, (13, 2), 8, (10, 3)]),
                (Greatest([TWO, ONE]), [1, 3, 3, (10, 3)]), (Then(0, Times(5, ONE), TWO), [5, (5, 2), 10, (50, 3)]),
                (Then(1, ONE, Times(2, TWO)), [2, 6, 24, 40]), (Then(3, ONE, Times(2, TWO)), [2, 6, 6, 0]),
                (Then(1000, TWO, Sum([ONE, ONE])), [2, 1, 4, (20, 3)]), (WALK, [1, 3, 12, 20]),
                (BestWalk(CHAIN, (1, 30)), [30, 15, 60, 100]), (BestWalk(CHAIN, (0, 0)), [0, 0, 0, 0]),
                (BestWalk(CHAIN, (0, (1, 3))), [(1, 3), (1, 6), (2, 3), (10, 9)]), (Times(0, ONE), [0, 0, 0, 0])):
            for many, wanted in enumerate(worths):
                self.same(worth(promise, days[:many]), wanted)
                self.same(worth(promise, listed(days[:many])), wanted)
                self.same(worth(promise=promise, market=tuple(days[:many])), wanted)

    def test_weights_as_lists_without_days(self):
        self.same(worth(BestWalk(CHAIN, [[1, 2], [1, 3]]), []), (1, 2))

    def test_days_of_0s_and_great_numbers(self):
        for promise in (ONE, Mix(HALF), Sum([ONE, TWO]), Greatest([ONE, TWO]), WALK, Then(1, ONE, TWO)):
            self.same(worth(promise, [(1, 1), (0, 0)]), 0)
        days = [(GREAT, (1, GREAT)), ((GREAT - 1, GREAT), GREAT + 1)] * 12
        for promise in (ONE, Mix(((1, GREAT), (GREAT - 1, GREAT))), Greatest([ONE, TWO]), Sum([ONE, Mix(HALF)])):
            self.same(worth(promise, days), told(oracle.worth(promise, days)))
        self.same(worth(WALK, days), told(max(
            oracle.weight(days, (0,) * at + (1,) * (24 - at)) for at in range(1, 25))))

    def test_some(self):
        chance = random.Random(71)
        for _ in range(400):
            goods = chance.randint(1, 4)
            promise = oracle.some_promise(chance, goods, best=False)
            market = oracle.some_market(chance, goods, chance.randint(0, 5))
            self.same(worth(promise, market), told(oracle.worth(promise, market)))

    def test_many_days(self):
        market = [(2, 1, 1)] * 500 + [(1, 1, 3)] * 500
        arrows = [(begin, end) for begin in range(3) for end in range(3)]
        machine = Machine([(1, 0, 0), (0, 1, 0), (0, 0, 1)], arrows)
        wanted = 1
        for _ in range(500):
            wanted = wanted * 6
        self.same(worth(BestWalk(machine, (1, 1, 1)), market), wanted)
        self.same(worth(Then(500, Hold(3, 0), Hold(3, 2)), market), wanted)

    def test_wrong_arguments(self):
        for value in NO_PROMISES + [Promise()]:
            self.raises(BadPromise("promise"), worth, value, [(1, 1)])
            self.raises(BadPromise("promise"), worth, value, None)
        for value in NO_MARKETS:
            self.raises(BadMarket("market"), worth, ONE, value)
            self.raises(BadMarket("market"), worth, BEST, value)
        for goods in (1, 3, 4, 5):
            self.raises(BadMarket("market"), worth, ONE, [(1,) * goods])
            self.same(worth(Hold(goods, 0), [(1,) * goods]), 1)
        for promise in (BEST, Sum([ONE, BEST]), Times(0, BEST), Then(1000, ONE, BEST), Greatest([Times(2, Sum([BEST]))])):
            for market in ([], [(1, 1)], ((0, 1), [1, 0])):
                self.raises(Misfit("promise"), worth, promise, market)


class AtWords(Case):
    def test_as_at_the_lightnings(self):
        chance = random.Random(72)
        for _ in range(300):
            goods = chance.randint(1, 4)
            promise = oracle.some_promise(chance, goods, best=False)
            word = oracle.some_word(chance, goods, chance.randint(0, 5))
            at = worth_at(promise, word)
            self.same(at, worth(promise, oracle.lightnings(goods, word)))
            self.same(at, told(oracle.worth_at(promise, word)))

    def test_best_mixes_by_hand(self):
        for counts, word, wanted in (
                ((0, 0), (), 1), ((0, 0), (1,), 1), ((0, 0), (0, 1), (1, 4)), ((0, 0), [0, 0, 1], (4, 27)),
                ((1, 0), (), 1), ((1, 0), (0, 0), 1), ((1, 0), (1,), (1, 4)), ((2, 1), (1,), (1, 16)),
                ((0,), (0,) * 7, 1), ((5, 0, 0), (), 1), ((1, 1, 1), (), (1, 27)), ((0, 0, 0), (0, 1, 2), (1, 27)),
                ((3, 0, 0), [2], (27, 256)), ((1000, 0), (), 1)):
            self.same(worth_at(BestMix(len(counts), counts), word), wanted)
        self.same(worth_at(promise=BestMix(2, (500, 500)), word=()), told(oracle.worth_at(BestMix(2, (500, 500)), ())))

    def test_some_with_best_mixes(self):
        chance = random.Random(73)
        for _ in range(400):
            goods = chance.randint(1, 4)
            promise = oracle.some_promise(chance, goods)
            word = oracle.some_word(chance, goods, chance.randint(0, 5))
            self.same(worth_at(promise, word), told(oracle.worth_at(promise, word)))
            self.same(worth_at(promise, list(word)), told(oracle.worth_at(promise, word)))

    def test_wrong_arguments(self):
        for value in NO_PROMISES:
            self.raises(BadPromise("promise"), worth_at, value, (0,))
            self.raises(BadPromise("promise"), worth_at, value, (9,))
        for value in NO_WORDS:
            self.raises(BadWord("word"), worth_at, ONE, value)
            self.raises(BadWord("word"), worth_at, BEST, value)
        self.raises(BadWord("word"), worth_at, Hold(1, 0), (1,))
        self.same(worth_at(Hold(3, 2), (2, 2)), 1)


class Named(Case):
    def test_from_the_left(self):
        b, c, d, e = HALF, (0, 1), ((1, 3), (2, 3)), (1, 0)
        best = [BestMix(2, counts) for counts in ((1, 0), (0, 2), (1, 2), (0, 0))]
        promise = Then(3, Sum([best[0], Times(2, best[1])]), Greatest([ONE, Then(1, best[2], WALK), best[3]]))
        wanted = Then(
            3, Sum([Times((1, 2), Mix(b)), Times(2, Times(1, Mix(c)))]),
            Greatest([ONE, Then(1, Times((4, 27), Mix(d)), WALK), Times(1, Mix(e))]))
        self.assertIs(named(promise, (b, c, d, e)) == wanted, True)
        self.assertIs(named(promise=promise, mixes=listed([b, c, d, e])) == wanted, True)
        self.assertIs(named(promise, (e, c, d, b)) == wanted, False)
        self.same((wanted.levels, wanted.many), (named(promise, (b, c, d, e)).levels, named(promise, (b, c, d, e)).many))

    def test_counts_of_0_and_shares_of_0(self):
        for counts, mix, number in (
                ((0, 0), (1, 0), 1), ((0, 3), (1, 0), 0), ((3, 0), (1, 0), 1), ((0, 2), HALF, (1, 4)),
                ((1, 1), ((1, 3), (2, 3)), (2, 9)), ((0, 0), HALF, 1)):
            made = named(BestMix(2, counts), [mix])
            self.assertIs(made == Times(number, Mix(mix)), True)
            self.same((made.number, made.part.shares, made.goods), (number, mix, 2))

    def test_without_best_mixes(self):
        chance = random.Random(74)
        for _ in range(50):
            promise = oracle.some_promise(chance, 2, best=False)
            self.assertIs(named(promise, []) == promise, True)
            self.assertIs(named(promise, ()) == promise, True)
            self.raises(BadMix("mixes"), named, promise, [(1, 0)])

    def test_never_worth_more(self):
        chance = random.Random(75)
        for _ in range(150):
            goods = chance.randint(1, 3)
            promise = oracle.some_promise(chance, goods)
            mixes = [oracle.some_mix(chance, goods) for part in all_in(promise) if isinstance(part, BestMix)]
            made = named(promise, mixes)
            self.assertIs(has_best(made), False)
            for word in oracle.words(goods, chance.randint(0, 3)):
                self.assertLessEqual(oracle.worth_at(made, word), oracle.worth_at(promise, word))

    def test_more_levels_and_more_promises(self):
        deepest = Sum([Times(2, Sum([Sum([Greatest([BEST])])]))])
        self.same(deepest.levels, 6)
        made = named(deepest, [HALF])
        self.same((made.levels, made.many), (7, 7))
        self.same(worth(made, [(1, 3), (3, 1)]), 8)
        wide = Sum([Sum([BEST] * 6)] * 5 + [Sum([BEST] * 3)])
        self.same(wide.many, 40)
        made = named(wide, [HALF] * 33)
        self.same((made.many, made.levels), (73, 4))
        self.same(worth(made, [(1, 3)]), 66)
        self.same(worth_at(made, [1]), (33, 2))

    def test_wrong_arguments(self):
        for value in NO_PROMISES:
            self.raises(BadPromise("promise"), named, value, None)
        two = Sum([BEST, ONE, BEST])
        for value in STRANGE + [[], [HALF], [HALF] * 3, [HALF, (1,)], [HALF, (1, 0, 0)], [HALF, (1, 1)], [HALF, None],
                                [(True, 0), HALF], [HALF, (1, (0, 2))], [((3, 2), (-1, 2)), HALF], HALF, (1, 0), "ab"]:
            self.raises(BadMix("mixes"), named, two, value)

    def test_nothing_changes(self):
        mixes = [[[1, 2], [1, 2]]]
        promise = Sum([BEST, ONE])
        made = named(promise, mixes)
        mixes[0][0] = 5
        mixes.append(3)
        self.same(made.parts[0].part.shares, HALF)
        self.assertIs(promise == Sum([BestMix(2, (0, 0)), Hold(2, 0)]), True)


class HasBest(Case):
    def test_has_best(self):
        chance = random.Random(76)
        for _ in range(100):
            promise = oracle.some_promise(chance, 2)
            self.assertIs(has_best(promise), any(isinstance(part, BestMix) for part in all_in(promise)))
        self.assertIs(has_best(promise=BEST), True)
        self.assertIs(has_best(deep(6)), False)
        self.assertIs(has_best(Then(5, ONE, Times(0, Sum([ONE, BEST])))), True)

    def test_wrong_arguments(self):
        for value in NO_PROMISES:
            self.raises(BadPromise("promise"), has_best, value)


if __name__ == "__main__":
    unittest.main()
