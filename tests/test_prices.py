"""hindprice.prices."""

import itertools
import math
import random
import unittest

from hindprice.afters import after_day, after_word
from hindprice.errors import BadNumber, BadPromise, BadWord, Misfit, TooMany
from hindprice.machines import Machine
from hindprice.prices import is_orderless, price, prices, rest, richest, shared, worths_of
from hindprice.promises import BestMix, BestWalk, Greatest, Hold, Mix, Sum, Then, Times, all_in
from hindprice.tables import is_lower
from hindprice.walks import switching
from hindprice.worths import named, worth_at
from tests import oracle
from tests.support import NO_NUMBERS, Case, fraction, told
from tests.test_promises import NO_PROMISES
from tests.test_worths import NO_WORDS

ONE, TWO = Hold(2, 0), Hold(2, 1)
HALF = ((1, 2), (1, 2))
CHAIN = Machine([(1, 0), (0, 1)], [(0, 0), (0, 1), (1, 1)])
WALK, BEST, CALM = BestWalk(CHAIN, (1, 0)), BestMix(2, (0, 0)), Greatest([ONE, TWO])
WORDS, COUNTS = TooMany("words", 4096), TooMany("counts", 5000)
NO_LENGTHS = NO_NUMBERS + [-1, 1001, (1, 2), 10 ** 40]
GREAT = 10 ** 39
# The most days for which an orderless promise of so many goods is gone through.
MOST_DAYS = {1: 1000, 2: 1000, 3: 98, 4: 29, 5: 16}


class Against(Case):
    """Held against the sums over all words."""

    def some(self, seed, many, orderless=False):
        chance = random.Random(seed)
        for _ in range(many):
            goods = chance.randint(1, 3)
            yield chance, oracle.some_promise(chance, goods, 4, chance.random() < 0.7, orderless)

    def test_prices(self):
        for seed, orderless in ((101, False), (102, True)):
            for _, promise in self.some(seed, 150, orderless):
                wanted = tuple(told(oracle.price(promise, days)) for days in range(5))
                self.same(prices(promise, 4), wanted)
                for days in range(5):
                    self.same(price(promise, days), wanted[days])
                    self.same(prices(promise=promise, days=days), wanted[:days + 1])

    def test_rests(self):
        for chance, promise in self.some(103, 150):
            days = chance.randint(0, 4)
            for many in range(days + 1):
                word = oracle.some_word(chance, promise.goods, many)
                wanted = told(oracle.rest(promise, days, word))
                self.same(rest(promise, days, word), wanted)
                self.same(rest(promise=promise, days=days, word=list(word)), wanted)
            self.same(rest(promise, days, ()), price(promise, days))

    def test_worths_of_and_richest(self):
        for chance, promise in self.some(104, 150):
            days = chance.randint(0, 4)
            words = oracle.words(promise.goods, days)
            wanted = [oracle.worth_at(promise, word) for word in words]
            self.same(worths_of(promise, days), tuple(told(worth) for worth in wanted))
            self.same(richest(promise, days), (words[wanted.index(max(wanted))], told(max(wanted))))

    def test_shared(self):
        for chance, one in self.some(105, 150):
            other = oracle.some_promise(chance, one.goods, 3)
            days = chance.randint(0, 4)
            wanted = sum(min(oracle.worth_at(one, word), oracle.worth_at(other, word))
                         for word in oracle.words(one.goods, days))
            self.same(shared(one, other, days), told(wanted))
            self.same(shared(one=other, other=one, days=days), told(wanted))

    def test_what_was_returned(self):
        for chance, promise in self.some(106, 100):
            days = chance.randint(0, 3)
            mixes = [oracle.some_mix(chance, promise.goods) for part in all_in(promise) if isinstance(part, BestMix)]
            left = after_word(named(promise, mixes), oracle.some_word(chance, promise.goods, 1))
            left = after_day(left, oracle.some_day(chance, promise.goods))
            self.same(price(left, days), told(oracle.price(left, days)))
            self.same(worths_of(left, days), tuple(
                told(oracle.worth_at(left, word)) for word in oracle.words(left.goods, days)))

    def test_orderless(self):
        for _, promise in self.some(107, 200):
            wanted = not any(isinstance(part, (Then, BestWalk)) for part in all_in(promise))
            self.assertIs(is_orderless(promise), wanted)
            self.assertIs(is_orderless(promise=promise), wanted)


class ByHand(Case):
    def test_told_at_once(self):
        for promise, wanted in (
                (ONE, 1), (Mix(HALF), 1), (Times((7, 2), ONE), (7, 2)), (Times(0, ONE), 0), (Sum([ONE, TWO, Mix(HALF)]), 3),
                (Then(400, Times(2, ONE), Sum([ONE, TWO])), 4), (Then(1000, Sum([ONE, TWO]), Times(3, TWO)), 6),
                (Sum([Then(3, ONE, TWO), Times(2, Sum([ONE, ONE]))]), 5), (Mix([(1, GREAT), (GREAT - 1, GREAT)]), 1)):
            for days in (0, 1, 3, 60, 1000):
                self.same(price(promise, days), wanted)
            self.same(prices(promise, 1000), (wanted,) * 1001)
        self.same(rest(Sum([ONE, Mix(HALF)]), 1000, (0,) * 10), (1025, 1024))
        self.same(rest(Then(400, ONE, TWO), 1000, (0,) * 400 + (1,) * 600), 1)
        self.same(rest(Then(400, ONE, TWO), 1000, (0,) * 401), 0)

    def test_then_with_fewer_days_than_told(self):
        promise = Then(5, CALM, Times(3, Sum([BEST, ONE])))
        self.same(prices(promise, 7), (6, 12, 12, 12, 12, 12, 18, 21))
        self.same(rest(promise, 3, (0,)), 6)
        self.same(rest(promise, 6, (0,) * 5), 9)
        self.same(worths_of(promise, 1), (6, 6))

    def test_no_days(self):
        for promise, wanted in ((CALM, 1), (BEST, 1), (WALK, 1), (BestWalk(CHAIN, ((1, 3), (1, 2))), (1, 2)),
                                (Greatest([Times(4, WALK), BEST]), 4), (BestMix(2, (1, 1)), (1, 4))):
            self.same((price(promise, 0), prices(promise, 0), rest(promise, 0, ())), (wanted, (wanted,), wanted))
            self.same((worths_of(promise, 0), richest(promise, 0), shared(promise, promise, 0)), ((wanted,), ((), wanted), wanted))

    def test_switching(self):
        # Words with at most one change: 2 without one, and 2 for each place of it.
        self.same(prices(switching(2, 1), 12), (1, *[2 * days for days in range(1, 13)]))

    def test_ties(self):
        self.same(richest(CALM, 3), ((0, 0, 0), 1))
        self.same(richest(Greatest([TWO, Times((1, 2), ONE)]), 2), ((1, 1), 1))
        self.same(richest(Times(0, CALM), 2), ((0, 0), 0))
        self.same(richest(Sum([Mix(HALF), Mix(HALF)]), 2), ((0, 0), (1, 2)))
        self.same((shared(CALM, CALM, 5), shared(ONE, TWO, 3), shared(ONE, TWO, 0)), (2, 0, 1))

    def test_less_or_not(self):
        chance = random.Random(108)
        for _ in range(5000):
            bits = chance.choice((2, 4, 40, 200, 2500))
            one, other = [(chance.choice((0, 1, chance.getrandbits(bits))), 1 + chance.choice((0, chance.getrandbits(bits))))
                          for _ in range(2)]
            self.assertIs(is_lower(one, other), one[0] * other[1] < other[0] * one[1])
            self.assertIs(is_lower(one, (one[0] * 3, one[1] * 3)), False)

    def test_what_is_lower_by_little(self):
        chance = random.Random(45)
        for _ in range(500):
            bits = chance.choice((2, 63, 64, 65, 200, 1000, 3000))
            top, bottom, times = [1 + chance.getrandbits(bits) for _ in range(3)]
            near = (top * times + chance.choice((-1, 0, 1, 1 << chance.randrange(bits))), bottom * times)
            self.assertIs(is_lower((top, bottom), near), top * times < near[0])
            self.assertIs(is_lower(near, (top, bottom)), near[0] < top * times)

    def test_great_numbers(self):
        promise = Greatest([Mix([(1, GREAT), (GREAT - 1, GREAT)]), Times((GREAT + 1, GREAT - 1), Mix(HALF)),
                            BestWalk(Machine([[(7, GREAT), (GREAT - 7, GREAT)], HALF], [(0, 1), (1, 0)]), (1, (1, GREAT)))])
        for days in (0, 1, 3, 6):
            self.same(price(promise, days), told(oracle.price(promise, days)))
            self.same(richest(promise, days)[1], told(max(
                oracle.worth_at(promise, word) for word in oracle.words(2, days))))


class GoneThrough(Case):
    def test_by_counts(self):
        for goods, most in MOST_DAYS.items():
            promise = Greatest([Hold(goods, good) for good in range(goods)])
            self.same(math.comb(most + goods - 1, goods - 1) <= 5000, True)
            self.same(price(promise, most), goods)
            self.same(rest(promise, most, (0,) * most), 1)
            self.same(is_orderless(promise), True)
            if goods > 2:
                for call in (price, prices):
                    self.raises(COUNTS, call, promise, most + 1)
                    self.raises(COUNTS, call, BestMix(goods, [0] * goods), most + 1)
                self.raises(COUNTS, rest, promise, most + 1, (0,) * most)

    def test_by_counts_held_against_a_sum(self):
        for goods, days in ((2, 60), (3, 60), (5, 16)):
            promise = BestMix(goods, [60] + [0] * (goods - 1))
            wanted = 0
            for lot in itertools.combinations(range(days + goods - 1), goods - 1):
                ends = [-1, *lot, days + goods - 1]
                counts = [after - before - 1 for before, after in zip(ends, ends[1:])]
                many = math.factorial(days) // math.prod(map(math.factorial, counts))
                wanted += many * (counts[0] + 60) ** (counts[0] + 60) * math.prod(count ** count for count in counts[1:])
            self.assertEqual(fraction(price(promise, days)) * (60 + days) ** (60 + days), wanted)

    def test_by_words(self):
        later = Greatest([ONE, Then(1, ONE, TWO)])
        for promise in (WALK, Greatest([WALK, BEST]), later):
            self.assertIs(is_orderless(promise), False)
            self.same(price(promise, 12), told(sum(map(fraction, worths_of(promise, 12)))))
            for call in (price, prices):
                self.raises(WORDS, call, promise, 13)
                self.raises(WORDS, call, promise, 1000)
            self.raises(WORDS, rest, promise, 13, (0,) * 13)
        self.same((price(WALK, 12), price(later, 12)), (12, 2))
        for goods, most in ((1, 1000), (3, 7), (4, 6), (5, 5)):
            machine = Machine([(0,) * (goods - 1) + (1,)], [(0, 0)])
            walk = BestWalk(machine, [(3, 2)])
            self.same(price(walk, most), (3, 2))
            if goods > 1:
                self.raises(WORDS, price, walk, most + 1)
        self.raises(WORDS, price, Greatest([Then(1, ONE, TWO)]), 13)
        # Parts of a Greatest are not looked at by themselves.
        three = Greatest([BestMix(3, (0, 0, 0)), Then(1, Hold(3, 0), Hold(3, 1))])
        self.raises(WORDS, price, three, 99)
        self.same(price(Greatest([Sum([CALM, BEST])]), 60) == price(Sum([CALM, BEST]), 60), True)

    def test_put_together(self):
        least = BestMix(3, (0, 0, 0))
        steps = BestWalk(Machine([(1, 0, 0)], [(0, 0)]), [1])
        self.raises(COUNTS, price, Sum([Hold(3, 0), least, steps]), 99)
        self.raises(WORDS, price, Sum([Hold(3, 0), steps, least]), 99)
        self.raises(WORDS, price, Times(0, Sum([Hold(3, 0), steps])), 8)
        self.raises(COUNTS, price, Then(1, Times(0, Hold(3, 0)), least), 100)
        self.raises(COUNTS, price, Then(99, least, steps), 1000)
        self.raises(WORDS, price, Then(8, steps, least), 1000)
        self.raises(WORDS, price, Then(8, steps, Hold(3, 0)), 8)
        self.raises(WORDS, prices, Sum([Times(0, steps), least]), 99)
        self.raises(COUNTS, rest, Then(1, Times(0, Hold(3, 0)), least), 100, (1,) * 50)
        self.same(price(Then(98, Greatest([Hold(3, 0), Hold(3, 1)]), Then(7, steps, Hold(3, 2))), 1000), 2)
        self.same(price(Then(7, steps, Then(98, Greatest([Hold(3, 0), Hold(3, 1)]), steps)), 112), 2)
        # With fewer days than told, first is for these days, and last for none.
        self.same(price(Then(1000, Hold(3, 0), steps), 1000), 1)
        self.raises(WORDS, price, Then(992, Hold(3, 0), steps), 1000)
        self.same(price(Then(993, Hold(3, 0), steps), 1000), 1)

    def test_all_words(self):
        for promise in (ONE, CALM, BEST, WALK, Sum([ONE, WALK]), Then(6, ONE, BEST)):
            self.same(len(worths_of(promise, 12)), 4096)
            for call in (worths_of, richest):
                self.raises(WORDS, call, promise, 13)
            self.raises(WORDS, shared, promise, ONE, 13)
        self.same((len(worths_of(BestMix(5, (0,) * 5), 5)), worths_of(Hold(1, 0), 1000)), (3125, (1,)))
        self.raises(WORDS, worths_of, Hold(5, 0), 6)
        self.raises(WORDS, worths_of, Hold(2, 0), 1000)

    def test_many_parts(self):
        arrows = [(begin, end) for begin in range(6) for end in range(6)]
        mixes = [(told(fraction((1, 3 + at))), told(1 - fraction((1, 3 + at)))) for at in range(6)]
        machine = Machine(mixes, arrows)
        walks = Greatest([BestWalk(machine, [at, 1, (1, 2), 1, 1, 1]) for at in range(6)])
        worths = worths_of(walks, 12)
        self.same(price(walks, 12), told(sum(map(fraction, worths))))
        self.same(worths[1365], worth_at(walks, (0, 1) * 6))
        mixed = Greatest([Mix([(1, 3), (1, 3), (1, 3)]), Mix([(1, 2), (1, 4), (1, 4)]), Mix([(1, 7), (5, 7), (1, 7)])])
        self.same(fraction(price(mixed, 60)) > 2, True)


class WrongArguments(Case):
    def test_promises(self):
        for value in NO_PROMISES:
            for call in (price, prices, worths_of, richest):
                self.raises(BadPromise("promise"), call, value, -1)
            self.raises(BadPromise("promise"), rest, value, -1, None)
            self.raises(BadPromise("promise"), is_orderless, value)
            self.raises(BadPromise("one"), shared, value, None, None)
            self.raises(BadPromise("other"), shared, ONE, value, None)
        for goods in (1, 3, 4, 5):
            self.raises(BadPromise("other"), shared, ONE, Hold(goods, 0), None)

    def test_days(self):
        for value in NO_LENGTHS:
            for call in (price, prices, worths_of, richest):
                self.raises(BadNumber("days"), call, WALK, value)
            self.raises(BadNumber("days"), rest, WALK, value, None)
            self.raises(BadNumber("days"), shared, WALK, ONE, value)

    def test_words(self):
        for value in NO_WORDS:
            self.raises(BadWord("word"), rest, WALK, 0, value)
            self.raises(BadWord("word"), rest, WALK, 1000, value)
        for promise in (WALK, ONE, BEST):
            self.raises(Misfit("word"), rest, promise, 1, (0, 0))
            self.raises(Misfit("word"), rest, promise, 0, [1])
            # Misfit is ahead of TooMany.
            self.raises(Misfit("word"), rest, promise, 13, (0,) * 14)


if __name__ == "__main__":
    unittest.main()
