"""hindprice.corner_prices."""

import math
import random
import unittest
from fractions import Fraction

from hindprice.books import Book
from hindprice.corner_prices import corner_amounts, corner_price, corner_purse, corner_rest, robbed_corner
from hindprice.corners import Corner, lines_at
from hindprice.errors import BadCorner, BadMarket, BadNumber, BadPromise, BadWord, Misfit, TooMany
from hindprice.machines import Machine
from hindprice.prices import price, rest
from hindprice.promises import BestMix, BestWalk, Greatest, Hold, Mix, Sum, Then, Times
from hindprice.worths import worth
from tests import oracle
from tests.support import NO_NUMBERS, STRANGE, Case, fraction, listed, told
from tests.test_corners import NO_CORNERS, PAIR, some_corner, solved
from tests.test_prices import NO_LENGTHS
from tests.test_promises import NO_PROMISES
from tests.test_worths import NO_WORDS

ONE, TWO = Hold(2, 0), Hold(2, 1)
EITHER, BEST = Greatest([ONE, TWO]), BestMix(2, (0, 0))
STEADY = BestWalk(Machine([(1, 0), (0, 1)], [(0, 0), (0, 1), (1, 1)]), (1, 0))
WORDS = TooMany("words", 4096)
NO_MARKETS = STRANGE + [0, 1, "12", [1], [()], [(1,)], [(1, 2, 3)], [(1, -1)], [(1, 2), (1,)], [(1, True)], [(1, (2, 4))],
                        [(0, 1)], [(1, 1), (1, 3)], [(1, (1, 3))], (1, 1), [[(1, 2)]]]
NO_AMOUNTS = STRANGE + [0, 1, (), (1,), (1, 2, 3), (1, True), [1, (2, 4)], (1, None), "12", [[1, 2]], (1, 1.0)]


def rest_in(promise, rows, days, word):
    """The rest behind a word of rows by the words of the document."""
    weights = solved(rows, [1] * len(rows))
    return sum(math.prod((weights[row] for row in more), start=Fraction(1))
               * oracle.worth(promise, [rows[row] for row in (*word, *more)])
               for more in oracle.words(len(rows), days - len(word)))


def behind(rows, market):
    """The words of as many goods, each with the product of the parts of the days."""
    parts = [solved(rows, day) for day in market]
    for word in oracle.words(len(rows), len(market)):
        yield word, math.prod((row[at] for row, at in zip(parts, word)), start=Fraction(1))


def purse(promise, rows, days, market):
    return sum(weight * rest_in(promise, rows, days, word) for word, weight in behind(rows, market))


def amounts(promise, rows, days, market):
    goods = len(rows)
    lines = [[solved(rows, [int(at == good) for at in range(goods)])[row] for good in range(goods)] for row in range(goods)]
    by_rows = [sum(weight * rest_in(promise, rows, days, (*word, row)) for word, weight in behind(rows, market))
               for row in range(goods)]
    return tuple(told(sum(lines[row][good] * by_rows[row] for row in range(goods))) for good in range(goods))


def day_between(chance, rows):
    parts = [fraction(oracle.some_number(chance)) for _ in rows]
    return tuple(told(sum(part * fraction(row[good]) for part, row in zip(parts, rows))) for good in range(len(rows)))


def some(seed, many, most=(4, 4, 3)):
    chance = random.Random(seed)
    for _ in range(many):
        goods = chance.randint(1, 3)
        promise = oracle.some_promise(chance, goods, 3, best=False)
        rows = some_corner(chance, goods)
        yield chance, promise, rows, Corner(rows), chance.randint(0, most[goods - 1])


class Against(Case):
    """Held against the sums over all words of rows."""

    def test_prices_and_rests(self):
        for chance, promise, rows, corner, days in some(201, 120):
            self.same(corner_price(promise, corner, days), told(rest_in(promise, rows, days, ())))
            self.same(corner_price(days=days, promise=promise, corner=corner), corner_rest(promise, corner, days, ()))
            for many in range(days + 1):
                word = oracle.some_word(chance, len(rows), many)
                wanted = told(rest_in(promise, rows, days, word))
                self.same(corner_rest(promise, corner, days, word), wanted)
                self.same(corner_rest(word=list(word), days=days, corner=corner, promise=promise), wanted)

    def test_purses_and_amounts(self):
        for chance, promise, rows, corner, days in some(202, 80, (3, 3, 2)):
            market = [day_between(chance, rows) for _ in range(days)]
            for many in range(days + 1):
                came = market[:many]
                here = corner_purse(promise, corner, days, came)
                self.same(here, told(purse(promise, rows, days, came)))
                self.same(corner_purse(market=listed(came), promise=promise, days=days, corner=corner), here)
                if many < days:
                    lying = corner_amounts(promise, corner, days, came)
                    self.same(lying, amounts(promise, rows, days, came))
                    self.same(corner_amounts(days=days, corner=corner, market=tuple(came), promise=promise), lying)
                    self.assertEqual(sum(map(fraction, lying)), fraction(here))
                    onward = sum(fraction(amount) * fraction(number) for amount, number in zip(lying, market[many]))
                    self.same(corner_purse(promise, corner, days, market[:many + 1]), told(onward))
            self.assertGreaterEqual(fraction(corner_purse(promise, corner, days, market)), fraction(worth(promise, market)))

    def test_the_corner_of_lightnings(self):
        chance = random.Random(203)
        for _ in range(60):
            goods = chance.randint(1, 3)
            promise = oracle.some_promise(chance, goods, 4, best=False)
            days = chance.randint(0, 4)
            corner = Corner([[int(at == good) for at in range(goods)] for good in range(goods)])
            book = Book(promise, days)
            market = []
            self.same(corner_price(promise, corner, days), price(promise, days))
            word = oracle.some_word(chance, goods, chance.randint(0, days))
            self.same(corner_rest(promise, corner, days, word), rest(promise, days, word))
            for _ in range(days):
                self.same(corner_amounts(promise, corner, days, market), book.amounts)
                market.append(oracle.some_day(chance, goods))
                self.same(corner_purse(promise, corner, days, market), book.day(market[-1]))

    def test_a_corner_is_never_dearer(self):
        for _, promise, _, corner, days in some(204, 100):
            self.assertLessEqual(fraction(corner_price(promise, corner, days)), fraction(price(promise, days)))

    def test_rows_as_days(self):
        # Behind the rows of a word the purse is the rest.
        for chance, promise, rows, corner, days in some(205, 60, (3, 3, 2)):
            word = oracle.some_word(chance, len(rows), days)
            for many in range(days + 1):
                market = [rows[row] for row in word[:many]]
                self.same(corner_purse(promise, corner, days, market), corner_rest(promise, corner, days, word[:many]))
            self.same(corner_rest(promise, corner, days, word), worth(promise, [rows[row] for row in word]))

    def test_one_good(self):
        corner = Corner([[(1, 3)]])
        for promise in (Hold(1, 0), Mix([1]), Sum([Hold(1, 0), Times((1, 2), Mix([1]))])):
            wanted = price(promise, 3)
            self.same(corner_price(promise, corner, 0), wanted)
            self.same(corner_price(promise, corner, 1000), wanted)
        self.same(corner_purse(Hold(1, 0), corner, 1000, [[2]] * 3), 8)
        self.same(corner_rest(Hold(1, 0), corner, 2, (0, 0)), (1, 9))
        self.assertEqual(corner_rest(Hold(1, 0), corner, 1000, [0] * 900), (1, 3 ** 900))
        self.same(robbed_corner(Hold(1, 0), corner, 1000, [0] * 900, [0]), 0)
        self.same(corner_amounts(Hold(1, 0), corner, 1000, [[1]] * 900), (1,))

    def test_great_numbers(self):
        great = 10 ** 40 - 1
        rows = [((great, great - 1), (1, great)), ((1, great - 3), (great - 4, great - 5))]
        promise = Greatest([Then(1, ONE, TWO), Mix([(1, great), (great - 1, great)])])
        self.same(corner_price(promise, Corner(rows), 3), told(rest_in(promise, rows, 3, ())))
        self.same(corner_purse(promise, Corner(rows), 2, [rows[1], (1, 1)]), told(purse(promise, rows, 2, [rows[1], (1, 1)])))


class Robbed(Case):
    def first(self, promise, rows, days, word, lying):
        """The first row at which amounts come to less than the rest."""
        for at, row in enumerate(rows):
            come = sum(fraction(amount) * fraction(number) for amount, number in zip(lying, row))
            if come < rest_in(promise, rows, days, (*word, at)):
                return at
        return None

    def test_against_rests(self):
        found = set()
        for chance, promise, rows, corner, days in some(206, 150, (4, 4, 3)):
            if days == 0:
                continue
            word = oracle.some_word(chance, len(rows), chance.randint(0, days - 1))
            here = rest_in(promise, rows, days, word)
            some_amounts = [fraction(oracle.some_number(chance)) - chance.randint(0, 3) for _ in rows]
            for lying in (some_amounts, some_amounts[:-1] + [here - sum(some_amounts[:-1])],
                          some_amounts[:-1] + [here - sum(some_amounts[:-1]) - Fraction(1, 10 ** 40)]):
                lying = [told(amount) for amount in lying]
                if sum(map(fraction, lying)) < here:
                    at = robbed_corner(promise, corner, days, word, lying)
                    self.same(at, self.first(promise, rows, days, word, lying))
                    self.same(robbed_corner(amounts=tuple(lying), word=list(word), days=days, corner=corner, promise=promise), at)
                    found.add(at)
                else:
                    self.raises(Misfit("amounts"), robbed_corner, promise, corner, days, word, lying)
        self.assertEqual(found, {0, 1, 2})

    def test_row_by_row_down_to_a_market_that_is_short(self):
        for chance, promise, rows, corner, days in some(207, 60, (3, 3, 2)):
            here = fraction(corner_price(promise, corner, days)) - Fraction(1, 9)
            word = ()
            while len(word) < days:
                # What is had lies on the goods in any way, also below 0.
                lying = [Fraction(chance.randint(-3, 3)) for _ in rows[1:]]
                lying = [told(amount) for amount in [*lying, here - sum(lying)]]
                word = (*word, robbed_corner(promise, corner, days, word, lying))
                here = sum(fraction(amount) * fraction(number) for amount, number in zip(lying, rows[word[-1]]))
                self.assertLess(here, rest_in(promise, rows, days, word))
            self.assertLess(here, fraction(worth(promise, [rows[row] for row in word])))

    def test_just_the_rest_and_just_below_it(self):
        for lying in ((1, (1, 3)), ((4, 3), 0), (-1, (7, 3)), (10 ** 40, 0)):
            self.raises(Misfit("amounts"), robbed_corner, EITHER, PAIR, 1, (), lying)
        self.same(robbed_corner(EITHER, PAIR, 1, (), (1, told(Fraction(1, 3) - Fraction(1, 10 ** 40)))), 1)
        self.same(robbed_corner(EITHER, PAIR, 1, (), (-(10 ** 40), 10 ** 40)), 0)


class WrongArguments(Case):
    CALLS = [(corner_price, ()), (corner_rest, ((),)), (corner_purse, ([],)), (corner_amounts, ([],)),
             (robbed_corner, ((), (0, 0)))]
    STRANGE_LAST = [(corner_price, ()), (corner_rest, (None,)), (corner_purse, (None,)), (corner_amounts, (None,)),
                    (robbed_corner, (None, None))]

    def test_promises(self):
        for call, last in self.STRANGE_LAST:
            for value in NO_PROMISES:
                self.raises(BadPromise("promise"), call, value, None, -1, *last)

    def test_corners(self):
        others = [Corner([[1]]), Corner([(1, 0, 0), (0, 1, 0), (0, 0, 1)])]
        for call, last in self.STRANGE_LAST:
            for value in NO_CORNERS + others:
                for promise in (EITHER, BEST):
                    self.raises(BadCorner("corner"), call, promise, value, -1, *last)

    def test_days(self):
        for call, last in self.STRANGE_LAST:
            for value in NO_LENGTHS:
                for promise in (EITHER, BEST):
                    self.raises(BadNumber("days"), call, promise, PAIR, value, *last)

    def test_words(self):
        for value in NO_WORDS:
            for promise in (EITHER, BEST):
                self.raises(BadWord("word"), corner_rest, promise, PAIR, 13, value)
                self.raises(BadWord("word"), robbed_corner, promise, PAIR, 13, value, None)

    def test_markets(self):
        for value in NO_MARKETS:
            for promise in (EITHER, BEST):
                for call in (corner_purse, corner_amounts):
                    self.raises(BadMarket("market"), call, promise, PAIR, 0, value)
                    self.raises(BadMarket("market"), call, promise, PAIR, 13, value)

    def test_amounts(self):
        for value in NO_AMOUNTS:
            for promise in (EITHER, BEST):
                self.raises(BadNumber("amounts"), robbed_corner, promise, PAIR, 13, (0,) * 13, value)

    def test_best_mixes(self):
        for promise in (BEST, Sum([ONE, Times(0, BEST)])):
            self.raises(Misfit("promise"), corner_price, promise, PAIR, 13)
            self.raises(Misfit("promise"), corner_rest, promise, PAIR, 0, (0,))
            self.raises(Misfit("promise"), corner_purse, promise, PAIR, 0, [(1, 1)])
            self.raises(Misfit("promise"), corner_amounts, promise, PAIR, 0, [])
            self.raises(Misfit("promise"), robbed_corner, promise, PAIR, 0, (), (9, 9))

    def test_too_long(self):
        for days in (0, 1, 13, 1000):
            self.raises(Misfit("word"), corner_rest, EITHER, PAIR, days, (0,) * (days + 1))
            self.raises(Misfit("word"), robbed_corner, EITHER, PAIR, days, (0,) * days, (10 ** 40, 0))
            self.raises(Misfit("market"), corner_purse, EITHER, PAIR, days, [(1, 1)] * (days + 1))
            self.raises(Misfit("market"), corner_amounts, EITHER, PAIR, days, [(1, 1)] * days)

    def test_too_many_words(self):
        for promise in (ONE, EITHER, STEADY, Times(0, Mix([(1, 2), (1, 2)]))):
            for days in (13, 1000):
                self.raises(WORDS, corner_price, promise, PAIR, days)
                self.raises(WORDS, corner_rest, promise, PAIR, days, (0,) * days)
                self.raises(WORDS, corner_purse, promise, PAIR, days, [(1, 1)] * days)
                self.raises(WORDS, corner_amounts, promise, PAIR, days, [(1, 1)] * (days - 1))
                # Only what does not fit of the amounts comes behind it.
                self.raises(WORDS, robbed_corner, promise, PAIR, days, (0,) * (days - 1), (10 ** 40, 0))
        self.same(corner_price(ONE, PAIR, 12), 1)
        self.same(corner_price(EITHER, PAIR, 12), told(rest_by_counts(12)))
        self.raises(WORDS, corner_price, Hold(3, 0), Corner([(1, 0, 0), (0, 1, 0), (0, 0, 1)]), 8)


def rest_by_counts(days):
    """The price of either in the pair: by how often the second row comes."""
    return sum(math.comb(days, ups) * Fraction(2, 3) ** (days - ups) * Fraction(1, 3) ** ups
               * max(1, Fraction(1, 2) ** (days - ups) * 2 ** ups) for ups in range(days + 1))


if __name__ == "__main__":
    unittest.main()
