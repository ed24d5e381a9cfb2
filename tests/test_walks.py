"""hindprice.walks."""

import itertools
import random
import unittest
from fractions import Fraction

from hindprice.errors import BadMachine, BadMarket, BadNumber, BadWord, Misfit, TooMany
from hindprice.machines import Machine
from hindprice.papers import Denial, Paper
from hindprice.promises import BestWalk
from hindprice.walks import (
    Walked, best_walk, is_walk, met, shows_best_walk, spelled, switching, walk_for, walk_worth, walks_of)
from hindprice.worths import worth, worth_at
from tests import oracle
from tests.support import NO_NUMBERS, STRANGE, Case, fraction, listed, told
from tests.test_worths import NO_MARKETS, NO_WORDS

HALF = ((1, 2), (1, 2))
CHAIN = Machine([(1, 0), (0, 1)], [(0, 0), (0, 1), (1, 1)])
ROUND = Machine([(1, 0), (0, 1), HALF], [(0, 1), (1, 2), (2, 0)])
ALL = Machine([(1,)] * 6, list(itertools.product(range(6), repeat=2)))
NO_MACHINES = STRANGE + [0, (), [], str(CHAIN), [(1, 0)], BestWalk(CHAIN, (1, 0)), Machine]
NO_WEIGHTS = STRANGE + [0, 1, (), (1,), (1, 2, 3), (1, -1), (1, True), [1, (2, 4)], (1, None), "12", [[1, 2]], (1, (-1, 2))]
NO_LENGTHS = NO_NUMBERS + [-1, 1001, (1, 2), 10 ** 40]
NO_WALKS = STRANGE + [0, 1, "01", [2], [-1], (1, 0), (0, 1, 0), (True,), (0, False), [(0,)], [None], [1.0], {0: 1}, [[0], 0],
                      (0, 0, 1, 2), ((1, 2),)]


class Walks(Case):
    def test_is_walk(self):
        for machine in (CHAIN, ROUND):
            for days in range(5):
                walks = oracle.walks(machine, days)
                for row in itertools.product(range(4), repeat=days):
                    self.assertIs(is_walk(machine, row), row in walks)
                    self.assertIs(is_walk(machine=machine, value=list(row)), row in walks)
        for value in NO_WALKS:
            self.assertIs(is_walk(CHAIN, value), False)
        self.assertIs(is_walk(CHAIN, ()), True)
        self.assertIs(is_walk(CHAIN, [0] * 500 + [1] * 500), True)

    def test_all_in_order(self):
        chance = random.Random(91)
        for _ in range(60):
            machine = oracle.some_machine(chance, 2, 4)
            for days in range(5):
                self.same(walks_of(machine, days), tuple(oracle.walks(machine, days)))
        self.same(walks_of(machine=ROUND, days=4), ((0, 1, 2, 0), (1, 2, 0, 1), (2, 0, 1, 2)))
        self.same(walks_of(CHAIN, 0), ((),))

    def test_just_so_many_and_more(self):
        self.same(len(walks_of(ALL, 4)), 1296)
        self.raises(TooMany("walks", 5000), walks_of, ALL, 5)
        self.raises(TooMany("walks", 5000), walks_of, ALL, 1000)
        self.same(len(walks_of(CHAIN, 1000)), 1001)
        self.same(walks_of(ROUND, 1000)[1][:5], (1, 2, 0, 1, 2))

    def test_just_5000_walks(self):
        just = Machine([(1,)] * 5, [(0, 2), (1, 1), (1, 2), (1, 3), (1, 4), (2, 4), (3, 1), (4, 3)])
        walks = walks_of(just, 12)
        self.same(len(walks), 5000)
        self.assertEqual(list(walks), sorted(set(walks)))
        self.assertTrue(all(len(walk) == 12 and is_walk(just, walk) for walk in walks))
        self.raises(TooMany("walks", 5000), walks_of, just, 13)
        more = Machine([(1,)] * 5, [(0, 1), (0, 3), (1, 2), (2, 0), (2, 1), (3, 1), (3, 4), (4, 3)])
        self.assertLess(len(walks_of(more, 16)), 5000)
        # These would be 5,001.
        self.raises(TooMany("walks", 5000), walks_of, more, 17)
        # 2 standings that lead to all of 2 and on to 1: as many walks as words, 2 to the days.
        both = Machine([(1,)] * 2, list(itertools.product(range(2), repeat=2)))
        self.same(len(walks_of(both, 12)), 4096)
        self.raises(TooMany("walks", 5000), walks_of, both, 13)

    def test_wrong_arguments(self):
        for value in NO_MACHINES:
            self.raises(BadMachine("machine"), is_walk, value, ())
            self.raises(BadMachine("machine"), walks_of, value, -1)
            self.raises(BadMachine("machine"), met, value, None)
            self.raises(BadMachine("machine"), walk_worth, value, None, None, None)
            self.raises(BadMachine("machine"), best_walk, value, None, None)
            self.raises(BadMachine("machine"), shows_best_walk, value, None, None, None)
            self.raises(BadMachine("machine"), spelled, value, None, None)
            self.raises(BadMachine("machine"), walk_for, value, None, None)
        for value in NO_LENGTHS:
            self.raises(BadNumber("days"), walks_of, ALL, value)
            self.raises(BadNumber("days"), spelled, CHAIN, (1, 0), value)
        for value in NO_WEIGHTS:
            self.raises(BadNumber("weights"), met, CHAIN, value)
            self.raises(BadNumber("weights"), walk_worth, CHAIN, value, None, None)
            self.raises(BadNumber("weights"), best_walk, CHAIN, value, None)
            self.raises(BadNumber("weights"), shows_best_walk, CHAIN, value, None, None)
            self.raises(BadNumber("weights"), spelled, CHAIN, value, None)
            self.raises(BadNumber("weights"), walk_for, CHAIN, value, None)


class Met(Case):
    def test_met(self):
        chance = random.Random(92)
        for _ in range(200):
            machine = oracle.some_machine(chance, 1, 5)
            weights = [chance.choice((0, 0, 1, (1, 2))) for _ in range(machine.many)]
            wanted = {walk[-1] for days in range(1, 7) for walk in oracle.walks(machine, days) if weights[walk[0]] != 0} \
                if machine.many < 5 else set(met(machine, weights))
            self.same(met(machine, weights), tuple(sorted(wanted)))
            self.same(met(machine=machine, weights=tuple(weights)), tuple(sorted(wanted)))

    def test_along_all_standings(self):
        line = Machine([(1,)] * 6, [(at, at + 1) for at in range(5)] + [(5, 5)])
        for begin in range(6):
            weights = [0] * 6
            weights[begin] = (1, 10 ** 39)
            self.same(met(line, weights), tuple(range(begin, 6)))
        self.same(met(line, [0] * 6), ())
        self.same(met(line, [1] * 6), (0, 1, 2, 3, 4, 5))


class Worths(Case):
    def test_by_hand(self):
        market = [(3, (1, 2)), (2, 5), (1, 7)]
        self.same(walk_worth(CHAIN, (2, 3), (0, 0, 1), market), 84)
        self.same(walk_worth(CHAIN, (2, 3), [1, 1, 1], listed(market)), (105, 2))
        self.same(walk_worth(ROUND, (1, 1, (1, 3)), (2, 0, 1), market), (49, 6))
        self.same(walk_worth(machine=ROUND, weights=[5, [1, 2], 0], walk=(), market=()), 5)
        self.same(walk_worth(ROUND, [[1, 2], [1, 3], 0], (), ()), (1, 2))

    def test_some(self):
        chance = random.Random(93)
        for _ in range(100):
            goods = chance.randint(1, 3)
            machine = oracle.some_machine(chance, goods)
            weights = [oracle.some_number(chance) for _ in range(machine.many)]
            market = oracle.some_market(chance, goods, chance.randint(0, 4))
            for walk in oracle.walks(machine, len(market)):
                self.same(walk_worth(machine, weights, walk, market),
                          told(oracle.walk_worth(machine, weights, walk, market)))

    def test_wrong_arguments(self):
        for value in NO_WALKS:
            self.raises(BadNumber("walk"), walk_worth, CHAIN, (1, 0), value, None)
        for value in NO_MARKETS:
            self.raises(BadMarket("market"), walk_worth, CHAIN, (1, 0), (0, 0), value)
        for walk in ((), (0,), (0, 0, 0)):
            self.raises(Misfit("walk"), walk_worth, CHAIN, (1, 0), walk, [(1, 1), (2, 2)])


class Best(Case):
    def some(self, seed, many):
        chance = random.Random(seed)
        for _ in range(many):
            goods = chance.randint(1, 3)
            machine = oracle.some_machine(chance, goods)
            weights = [chance.choice((0, 0, 1, 1, (1, 2), 3)) for _ in range(machine.many)]
            market = oracle.some_market(chance, goods, chance.randint(0, 4))
            yield machine, weights, market

    def test_against_all_walks(self):
        for machine, weights, market in self.some(94, 300):
            worths = {walk: oracle.walk_worth(machine, weights, walk, market)
                      for walk in oracle.walks(machine, len(market))}
            greatest = max(worths.values())
            told_best = best_walk(machine, weights, market)
            self.same(told_best.worth, told(greatest))
            self.assertEqual(worths[told_best.walk], greatest)
            self.same(worth(BestWalk(machine, weights), market), told(greatest))
            again = best_walk(machine=machine, weights=tuple(weights), market=listed(market))
            self.assertIs(again == told_best, True)
            for walk, made in worths.items():
                right = made == greatest
                self.assertIs(shows_best_walk(machine, weights, market, Walked(walk, told(greatest))), right)
                self.assertIs(shows_best_walk(machine, weights, market, Walked(list(walk), listed(told(made)))), right)
                self.assertIs(shows_best_walk(machine, weights, market, Walked(walk, told(made + 1))), False)

    def test_ties_and_nothing(self):
        both = Machine([(1, 0), (0, 1)], list(itertools.product(range(2), repeat=2)))
        for weights, market, greatest in (((1, 1), [(2, 2)] * 3, 8), ((0, 0), [(2, 2)] * 3, 0), ((1, 1), [(1, 1), (0, 0)], 0),
                                          ((0, 1), [(0, 0), (5, 5)], 0)):
            told_best = best_walk(both, weights, market)
            self.same(told_best.worth, greatest)
            self.assertIs(is_walk(both, told_best.walk), True)
            for walk in walks_of(both, len(market)):
                right = oracle.walk_worth(both, weights, walk, market) == greatest
                self.assertIs(shows_best_walk(both, weights, market, Walked(walk, greatest)), right)
        # A walk that is worth nothing still goes by arrows.
        line = Machine([(1,)] * 3, [(0, 1), (1, 2), (2, 2)])
        told_best = best_walk(line, (0, 0, 0), [(1,)] * 5)
        self.assertIs(is_walk(line, told_best.walk), True)
        self.same((len(told_best.walk), told_best.worth), (5, 0))
        self.assertIs(shows_best_walk(line, (0, 0, 0), [(1,)] * 2, Walked((1, 0), 0)), False)

    def test_without_days(self):
        self.assertIs(best_walk(CHAIN, ((1, 2), 3), []) == Walked((), 3), True)
        self.assertIs(best_walk(CHAIN, ([3, 2], 1), []) == Walked((), (3, 2)), True)
        self.assertIs(shows_best_walk(CHAIN, ([3, 2], 1), [], Walked([], [3, 2])), True)
        self.assertIs(shows_best_walk(CHAIN, (0, 0), [], Walked((), 0)), True)
        self.assertIs(shows_best_walk(CHAIN, (0, 0), [], Walked((0,), 0)), False)

    def test_great_numbers(self):
        market = [((10 ** 39 + 1, 10 ** 38), (3, 10 ** 39)), ((1, 10 ** 39), 10 ** 39)] * 20
        told_best = best_walk(CHAIN, (1, 0), market)
        self.same(told_best.worth, told(max(
            oracle.weight(market, (0,) * at + (1,) * (40 - at)) for at in range(1, 41))))
        self.assertIs(shows_best_walk(CHAIN, (1, 0), market, told_best), True)

    def test_the_paper(self):
        paper = Walked([0, [1]], worth=[3, 2])
        self.assertIsInstance(paper, Paper)
        self.assertNotIsInstance(paper, Denial)
        self.same((paper.word, paper.parts, paper.walk, paper.worth, bool(paper)),
                  ("walked", ((0, (1,)), (3, 2)), (0, (1,)), (3, 2), True))
        self.assertIs(paper == Walked(worth=(3, 2), walk=(0, (1,))), True)
        self.assertIs(paper == Walked((0, 1), (3, 2)), False)
        self.assertIs(paper == Paper("walked", *paper.parts), False)
        self.assertIs(paper == paper.parts, False)

    def test_wrong_papers(self):
        class Other(Paper):
            def __init__(self, walk, worth):
                Paper.__init__(self, "walked", walk, worth)
                self.walk, self.worth = self.parts

        class Below(Walked):
            pass

        market = [(3, 1), (2, 1)]
        self.assertIs(shows_best_walk(CHAIN, (1, 0), market, Walked((0, 0), 6)), True)
        for value in STRANGE + NO_WALKS + [
                Walked((0, 0), value) for value in NO_NUMBERS + [5, 7, (12, 2), (6, 1), 6.0, Fraction(6), "6"]] + [
                Walked(value, 6) for value in NO_WALKS + [(0, 1), (0,), (0, 0, 0), (False, 0), (0.0, 0)]] + [
                Paper("walked", (0, 0), 6), Other((0, 0), 6), Below((0, 0), 6), ((0, 0), 6), Denial("walked", (0, 0), 6)]:
            self.assertIs(shows_best_walk(CHAIN, (1, 0), market, value), False)
        one = [(1, 0)]
        self.assertIs(shows_best_walk(CHAIN, (1, 0), one, Walked((0,), 1)), True)
        for value in (Walked((0,), True), Walked((False,), 1), Walked((0,), (1,)), Walked((0,), (True, True))):
            self.assertIs(shows_best_walk(CHAIN, (1, 0), one, value), False)

    def test_wrong_arguments(self):
        for value in NO_MARKETS:
            self.raises(BadMarket("market"), best_walk, CHAIN, (1, 0), value)
            self.raises(BadMarket("market"), shows_best_walk, CHAIN, (1, 0), value, None)


class Spelled(Case):
    def all_spelled(self, machine, weights, days):
        """All words of so many goods that walks spell."""
        if days == 0:
            return [()] if any(weights) else []
        return [word for word in oracle.words(machine.goods, days) if any(
            weights[walk[0]] and all(machine.mixes[at][good] for at, good in zip(walk, word))
            for walk in oracle.walks(machine, days))]

    def test_against_all_walks(self):
        chance = random.Random(95)
        for _ in range(150):
            goods = chance.randint(1, 3)
            machine = oracle.some_machine(chance, goods)
            weights = [chance.choice((0, 1, (1, 2))) for _ in range(machine.many)]
            for days in range(4):
                wanted = self.all_spelled(machine, weights, days)
                self.same(spelled(machine, weights, days), tuple(wanted))
                for word in oracle.words(goods, days):
                    walk = walk_for(machine, weights, word)
                    self.assertIs(walk is None, word not in wanted)
                    self.assertIs(walk is None, worth_at(BestWalk(machine, weights), word) == 0)
                    if walk is not None:
                        self.assertIs(type(walk), tuple)
                        self.assertIn(walk, oracle.walks(machine, days))
                        self.assertGreater(oracle.walk_worth(
                            machine, weights, walk, oracle.lightnings(goods, word)), 0)
                    self.assertEqual(walk_for(machine, tuple(weights), list(word)), walk)

    def test_just_4096_and_more(self):
        both = Machine([HALF], [(0, 0)])
        words = spelled(machine=both, weights=[1], days=12)
        self.same(words, tuple(oracle.words(2, 12)))
        self.raises(TooMany("words", 4096), spelled, both, [1], 13)
        self.raises(TooMany("words", 4096), spelled, both, [1], 1000)
        self.same(spelled(both, [0], 13), ())
        self.same(len(spelled(Machine([((1, 5),) * 5], [(0, 0)]), [1], 5)), 3125)
        self.raises(TooMany("words", 4096), spelled, Machine([((1, 5),) * 5], [(0, 0)]), [1], 6)
        # One word of 13 goods more than 4,096: the thirteenth day is good 0 behind all words but one.
        self.same(len(spelled(Machine([HALF, (1, 0)], [(0, 0), (0, 1), (1, 1)]), [1, 0], 12)), 4096)

    def test_many_walks_that_spell_few_words(self):
        machine = Machine([(1, 0)] * 3 + [(0, 1)] * 3, [
            (begin, end) for begin in range(6) for end in range(6) if begin < 3 or end >= 3])
        words = spelled(machine, [1] * 6, 60)
        self.same(words, tuple((0,) * at + (1,) * (60 - at) for at in range(60, -1, -1)))
        for word in words[::7]:
            walk = walk_for(machine, [1] * 6, word)
            self.assertIs(is_walk(machine, walk), True)
            self.assertEqual([0 if at < 3 else 1 for at in walk], list(word))
        self.assertIs(walk_for(machine, [1] * 6, (0,) * 30 + (1,) + (0,) * 29), None)
        self.same(len(spelled(machine, [1] * 6, 1000)), 1001)

    def test_without_goods(self):
        self.same((spelled(CHAIN, (0, 1), 0), spelled(CHAIN, (0, 0), 0)), (((),), ()))
        self.same((walk_for(CHAIN, (0, (1, 2)), ()), walk_for(CHAIN, (0, 0), [])), ((), None))

    def test_wrong_words(self):
        for value in NO_WORDS:
            self.raises(BadWord("word"), walk_for, CHAIN, (1, 0), value)
            self.raises(BadWord("word"), walk_for, CHAIN, (0, 0), value)
        self.same(walk_for(machine=CHAIN, weights=(0, 1), word=[1, 1]), (1, 1))


class Switching(Case):
    def greatest(self, goods, changes, market):
        """Over all ways to lie in one good each day, and to be moved at most so many times."""
        return max(oracle.weight(market, word) for word in oracle.words(goods, len(market))
                   if sum(one != other for one, other in zip(word, word[1:])) <= changes)

    def test_against_all_ways(self):
        chance = random.Random(96)
        for goods, changes in [(goods, changes) for goods in range(1, 6) for changes in range(6) if goods * (changes + 1) <= 6]:
            promise = switching(goods, changes)
            self.assertIsInstance(promise, BestWalk)
            self.same((promise.goods, worth(promise, [])), (goods, 1))
            for _ in range(12):
                market = oracle.some_market(chance, goods, chance.randint(1, 5))
                self.same(worth(promise, market), told(self.greatest(goods, changes, market)))
            for word in oracle.words(goods, 4):
                moved = sum(one != other for one, other in zip(word, word[1:]))
                self.same(worth_at(promise, word), 1 if moved <= changes else 0)

    def test_bounds(self):
        for goods, changes in ((4, 1), (5, 1), (3, 2), (2, 3), (1, 6), (1, 10 ** 40), (5, 10 ** 40)):
            self.raises(TooMany("standings", 6), switching, goods, changes)
        for value in NO_NUMBERS + [0, 6, -1, (1, 2)]:
            self.raises(BadNumber("goods"), switching, value, -1)
        for value in NO_NUMBERS + [-1, (1, 2)]:
            self.raises(BadNumber("changes"), switching, 2, value)
        self.assertIs(switching(goods=3, changes=1) == switching(3, 1), True)
        self.same(fraction(worth(switching(1, 5), [(7,), ((1, 2),)])), Fraction(7, 2))


if __name__ == "__main__":
    unittest.main()
