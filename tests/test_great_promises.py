"""Promises of many parts with numbers of 40 digits: that nothing is rounded, and that answers come in a short time."""

import math
import random
import time
import unittest
import unittest.mock
from fractions import Fraction

from hindprice.abouts import about, about_product, about_sum, at_least_times, is_surely_lower
from hindprice.books import Book
from hindprice.check_sellers import shows_seller
from hindprice.codes import code_of, codes_of
from hindprice.corner_prices import corner_price
from hindprice.corners import Corner
from hindprice.exact import added, over_by, product_of, ratio, sum_of
from hindprice.machines import Machine
from hindprice.prices import price, prices, rest, richest, shared, worths_of
from hindprice.promises import BestMix, BestWalk, Greatest, Hold, Mix, Sum, Then, Times
from hindprice.robbers import Safe, judged_seller
from hindprice.sellers import Seller
from hindprice.spares import Thrift
from hindprice.strands import unlike_bases
from hindprice.walk_tables import WalkTable
from hindprice.walks import best_walk
from hindprice.worths import worth_at
from tests import oracle
from tests.support import Case, fraction, told

GREAT = 10 ** 40 - 1
ALL = [(begin, end) for begin in range(6) for end in range(6)]
FEW = [(at, (at + 1) % 6) for at in range(6)] + [(0, 3), (2, 2), (5, 1)]
# Seconds of computing: far more than is needed here, also where what is found is held against other sums.
SHORT = 40


def mix(at):
    below, above = 10 ** 39 + 14 * at + 1, 2 ** (100 + at % 25)
    return [told(Fraction(above, below)), told(Fraction(below - above, below))]


def weight(at):
    return (3 ** (75 + at % 8), 2 ** (120 + at % 12))


def walk(at, arrows=None):
    return BestWalk(Machine([mix(6 * at + standing) for standing in range(6)], arrows or ALL),
                    [weight(6 * at + standing) for standing in range(6)])


def many_walks(parts, each, arrows=None):
    """The greatest of so many sums of so many walks."""
    return Greatest([Sum([walk(each * part + at, arrows) for at in range(each)]) for part in range(parts)])


def many_mixes(goods, chance):
    """The greatest of 6 sums of 5 mixes."""
    return Greatest([Sum([Mix(great_mix(chance, goods)) for _ in range(5)]) for _ in range(6)])


def great_mix(chance, goods):
    parts = [chance.randint(1, 10 ** 38) for _ in range(goods)]
    return [told(Fraction(part, sum(parts))) for part in parts]


def great_day(chance, goods):
    return [told(Fraction(chance.randint(10 ** 39, GREAT), chance.randint(10 ** 39, GREAT))) for _ in range(goods)]


def total(numbers):
    """The sum of many numbers, two by two: so most of what is added stays short."""
    numbers = [fraction(number) for number in numbers]
    while len(numbers) > 1:
        numbers = [sum(numbers[at:at + 2]) for at in range(0, len(numbers), 2)]
    return numbers[0]


class Time(Case):
    def setUp(self):
        self.begun = time.process_time()

    def tearDown(self):
        self.assertLess(time.process_time() - self.begun, SHORT)


class ManyWalks(Time):
    def test_price_against_worths(self):
        for arrows in (ALL, FEW):
            promise = many_walks(6, 5, arrows)
            self.assertEqual(promise.many, 37)
            for days in range(3):
                self.assertEqual(price(promise, days), told(oracle.price(promise, days)))
            small = many_walks(2, 2, arrows)
            self.assertEqual(prices(small, 3), tuple(told(oracle.price(small, days)) for days in range(4)))

    def test_price_for_12_days(self):
        promise = many_walks(6, 5)
        begun = time.process_time()
        here = price(promise, 12)
        self.assertLess(time.process_time() - begun, SHORT / 3)
        # Each walk is worth at a word what the greatest shares make, so few worths are to be told apart.
        wanted = sum(max(sum(self.greedy(part, word) for part in some.parts) for some in promise.parts) * ways
                     for word, ways in (((0,) * ups + (1,) * (12 - ups), math.comb(12, ups)) for ups in range(13)))
        self.assertGreaterEqual(fraction(here), wanted)
        self.assertEqual(here, told(total(worths_of(promise, 12))))

    def greedy(self, part, word):
        """At least the worth of the best walk at a word."""
        whole = Fraction(1)
        for at, good in enumerate(word):
            whole *= max(fraction(number) * fraction(mixed[good]) if at == 0 else fraction(mixed[good])
                         for number, mixed in zip(part.weights, part.machine.mixes))
        return whole

    def test_few_arrows(self):
        promise = many_walks(6, 5, FEW)
        self.assertEqual(price(promise, 10), told(total(worths_of(promise, 10))))

    def test_all_that_goes_through_the_worths(self):
        promise, other = many_walks(6, 5), many_walks(3, 4, FEW)
        worths = worths_of(promise, 10)
        for place in (0, 341, 1023):
            word = tuple(int(bit) for bit in f"{place:010b}")
            self.assertEqual(worths[place], worth_at(promise, word))
        word, most = richest(promise, 10)
        self.assertEqual(worths.index(most), int("".join(map(str, word)), 2))
        self.assertEqual(max(map(fraction, worths)), fraction(most))
        both = zip(worths, worths_of(other, 10))
        self.assertEqual(shared(promise, other, 10), told(total(told(min(fraction(one), fraction(two))) for one, two in both)))
        self.assertEqual(rest(promise, 10, (0, 1)), told(total(worths[256:512])))

    def test_books(self):
        chance = random.Random(241)
        book = Book(many_walks(6, 5), 12)
        for _ in range(12):
            day = great_day(chance, 2)
            self.assertEqual(sum(map(fraction, book.amounts)), fraction(book.purse))
            onward = sum(fraction(amount) * fraction(number) for amount, number in zip(book.amounts, day))
            self.assertEqual(fraction(book.day(day)), onward)

    def test_sellers(self):
        promise = many_walks(6, 5)
        rows = [(mix(7), (1, 0)), (mix(40), (0, 1))]
        self.assertIs(judged_seller(promise, 12, Seller(GREAT, rows)) == Safe(), False)
        paper = judged_seller(promise, 12, Seller(1, rows))
        self.assertIs(shows_seller(promise, 12, Seller(1, rows), paper), True)
        self.assertIs(shows_seller(promise, 12, Seller(1, rows), Safe()), False)

    def test_codes_and_corners(self):
        promise = many_walks(6, 5)
        pairs = codes_of(promise, 10)
        self.assertEqual(len(pairs), 1024)
        self.assertEqual(code_of(promise, 10, pairs[77][0]), pairs[77][1])
        chance = random.Random(242)
        great = told(Fraction(chance.randint(10 ** 39, GREAT), GREAT))
        corner = Corner([(3, great), (great, 5)])
        self.assertEqual(corner_price(promise, Corner([(1, 0), (0, 1)]), 10), price(promise, 10))
        self.assertLess(fraction(corner_price(promise, corner, 10)), fraction(price(promise, 10)))

    def test_parts_that_are_worth_the_same(self):
        # The same five walks in another order, and again as halves of twice as much.
        walks = [walk(at, FEW) for at in range(5)]
        turned = Greatest([Sum(walks[at:] + walks[:at]) for at in range(5)])
        self.assertEqual(price(turned, 12), price(Sum(walks), 12))
        twice = Greatest([Sum(walks[:3]), Times((1, 2), Sum([Times(2, part) for part in walks[:3]]))])
        self.assertEqual(price(twice, 11), price(Sum(walks[:3]), 11))

    def test_standings_that_are_alike(self):
        machine = Machine([mix(3)] * 3 + [mix(50)] * 3, FEW)
        promise = Greatest([Sum([BestWalk(machine, [weight(at)] * 6) for at in range(part, part + 5)]) for part in range(6)])
        self.assertEqual(price(promise, 3), told(oracle.price(promise, 3)))
        self.assertEqual(price(promise, 12), told(total(worths_of(promise, 12))))


class ManyMixes(Time):
    def test_by_counts(self):
        chance = random.Random(243)
        for goods in (2, 3):
            promise = many_mixes(goods, chance)
            self.assertEqual(price(promise, 2), told(oracle.price(promise, 2)))
            day = great_day(chance, goods)
            book = Book(promise, 20)
            onward = sum(fraction(amount) * fraction(number) for amount, number in zip(book.amounts, day))
            self.assertEqual(fraction(book.day(day)), onward)

    def test_60_days(self):
        promise = many_mixes(3, random.Random(244))
        self.assertGreater(fraction(price(promise, 60)), 5)

    def test_thrifts(self):
        chance = random.Random(245)
        thrift = Thrift(many_mixes(2, chance), 12)
        for _ in range(12):
            before, day = thrift.amounts, great_day(chance, 2)
            onward = sum(fraction(amount) * fraction(number) for amount, number in zip(before, day))
            self.assertEqual(fraction(thrift.day(day)) + fraction(thrift.purse), onward)

    def test_thens(self):
        promise = Greatest([Then(6, Sum([walk(part, FEW), walk(part + 9)]), Sum([walk(part + 1), walk(part + 2, FEW)]))
                            for part in range(5)])
        self.assertEqual(price(promise, 12), told(total(worths_of(promise, 12))))
        sooner = Greatest([Then(1, part.first, part.last) for part in promise.parts[:2]])
        self.assertEqual(price(sooner, 2), told(oracle.price(sooner, 2)))


class AllButTheSame(Case):
    """Numbers of which no first bits tell which one is greater."""

    NEAR = [(GREAT - 1, GREAT), (GREAT - 2, GREAT - 1), (GREAT - 3, GREAT - 2)]

    def orders(self):
        for one in self.NEAR:
            for other in self.NEAR:
                yield one, other

    def test_greatest_and_shared(self):
        for one, other in self.orders():
            nearer = [Times(number, Times(number, BestWalk(Machine([[(1, 2), (1, 2)]], [(0, 0)]), [1]))) for number in (one, other)]
            for pair in (nearer, [Times(number, Hold(2, 0)) for number in (one, other)],
                         [Times(number, Then(1, Hold(2, 0), Mix([(1, 3), (2, 3)]))) for number in (one, other)]):
                for days in range(3):
                    self.same(price(Greatest(pair), days), told(oracle.price(Greatest(pair), days)))
                    least = sum(min(oracle.worth_at(part, word) for part in pair) for word in oracle.words(2, days))
                    self.same(shared(*pair, days), told(least))

    def test_walks(self):
        chance = random.Random(246)
        for _ in range(40):
            many = chance.randint(2, 4)
            arrows = {(at, chance.randrange(many)) for at in range(many)} | {(chance.randrange(many), at) for at in range(many)}
            shares = [chance.choice(self.NEAR) for _ in range(many)]
            machine = Machine([(share, told(1 - fraction(share))) for share in shares], sorted(arrows))
            promise = BestWalk(machine, [chance.choice(self.NEAR) for _ in range(many)])
            for days in range(5):
                worths = worths_of(promise, days)
                self.same(worths, tuple(told(oracle.worth_at(promise, word)) for word in oracle.words(2, days)))
                self.same(price(Greatest([promise, Times((1, 7), promise)]), days), told(sum(map(fraction, worths))))
                self.same(worths[0], best_walk(machine, promise.weights, [(1, 0)] * days).worth)

    def test_many_days_of_them(self):
        # At the first word one standing makes the most on all days, at the last one the other one.
        machine = Machine([((1, 2), (1, 2)), (self.NEAR[0], told(1 - fraction(self.NEAR[0])))], [(0, 0), (0, 1), (1, 0), (1, 1)])
        promise = BestWalk(machine, [1, 1])
        self.assertEqual(worths_of(promise, 12)[0], told(fraction(self.NEAR[0]) ** 12))
        self.assertEqual(worths_of(promise, 12)[4095], (1, 4096))

    def test_sellers(self):
        for one, other in self.orders():
            promise, seller = Times(one, Hold(2, 0)), Seller(other, [((1, 0), (0, 0))])
            self.assertIs(judged_seller(promise, 2, seller) == Safe(), fraction(one) <= fraction(other))

    def test_richest(self):
        for one, other in self.orders():
            promise = Sum([Times(one, Hold(2, 0)), Times(other, Hold(2, 1))])
            self.same(richest(promise, 1), ((0,), one) if fraction(one) >= fraction(other) else ((1,), other))


class LittleKept(Case):
    """With few first bits kept, most is told by the whole numbers: all the same."""

    def setUp(self):
        for name, kept in (("abouts.KEPT", 96), ("abouts.SURE", 40), ("walk_tables.KEPT", 96)):
            self.enterContext(unittest.mock.patch(f"hindprice.{name}", kept))

    def number(self, chance):
        """Of 1 to 130 bits, or off another one by next to nothing."""
        near = Fraction(3, 7) * (1 + Fraction(chance.choice((-1, 0, 1)), 2 ** chance.randint(30, 110)))
        return chance.choice((near, near, Fraction(chance.getrandbits(chance.choice((1, 40, 90, 96, 97, 130))), 2 ** 130)))

    def walk(self, chance):
        many = chance.randint(1, 5)
        arrows = {(at, chance.randrange(many)) for at in range(many)} | {(chance.randrange(many), at) for at in range(many)}
        shares = [self.number(chance) for _ in range(many)]
        machine = Machine([(told(share), told(1 - share)) for share in shares], sorted(arrows))
        return BestWalk(machine, [told(self.number(chance)) for _ in range(many)])

    def part(self, chance):
        shares = self.number(chance)
        return chance.choice((self.walk(chance), self.walk(chance), Mix((told(shares), told(1 - shares))), Hold(2, 0),
                              Times(told(self.number(chance)), BestMix(2, (0, 1))), Then(1, self.walk(chance), self.walk(chance))))

    def test_walks(self):
        chance = random.Random(251)
        for _ in range(150):
            promise, days = self.walk(chance), chance.randint(0, 5)
            self.same(worths_of(promise, days), tuple(told(oracle.worth_at(promise, word)) for word in oracle.words(2, days)))
            table = WalkTable(promise, days)
            for place, word in enumerate(oracle.words(2, days)):
                exact = oracle.worth_at(promise, word)
                low, up = table.abouts[place]
                self.assertLessEqual(abs(Fraction(low) * Fraction(2) ** up - exact) * 2 ** 50, exact)
                for sums in (table.terms(place), table.pieces(place)):
                    self.assertEqual(sum(Fraction(top, bottom) for top, bottom in sums), exact)

    def test_promises(self):
        chance = random.Random(252)
        for _ in range(120):
            parts = [Sum([self.part(chance) for _ in range(chance.randint(1, 2))]) for _ in range(chance.randint(2, 3))]
            promise, days = Greatest(parts), chance.randint(0, 4)
            worths = [oracle.worth_at(promise, word) for word in oracle.words(2, days)]
            self.same(worths_of(promise, days), tuple(map(told, worths)))
            self.same(price(promise, days), told(sum(worths)))
            place = worths.index(max(worths))
            self.same(richest(promise, days), (oracle.words(2, days)[place], told(worths[place])))
            least = [min(worth, oracle.worth_at(parts[0], word)) for worth, word in zip(worths, oracle.words(2, days))]
            self.same(shared(parts[0], promise, days), told(sum(least)))


class OneForm(Case):
    def check(self, top, bottom, bases):
        self.same(over_by(top, bottom, bases), told(Fraction(top, bottom)))

    def test_by_bases(self):
        chance = random.Random(249)
        for _ in range(400):
            bases = [chance.choice((1, 2, 6, 12, 35, 10 ** 9 + 7, chance.randint(2, 10 ** 12))) for _ in range(chance.randint(0, 4))]
            bottom = math.prod(base ** chance.randint(0, 60) for base in bases)
            top = chance.randint(0, 10 ** 30) * math.prod(chance.choice((1, 2, 3, 5, 7, *bases)) ** chance.choice((0, 1, 2, 80)) for _ in range(3))
            self.check(top, bottom, bases)
            self.check(top * bottom, bottom, bases)
            self.check(top + bottom, bottom, bases)

    def test_sums(self):
        chance = random.Random(250)
        for _ in range(600):
            numbers = [Fraction(chance.randint(-20, 20), chance.choice((1, 2, 3, 4, 6, 12, 36, 35, 2 ** 90, 10 ** 40)))
                       for _ in range(chance.randint(0, 12))]
            if chance.random() < 0.3:
                numbers += [-number for number in numbers]
            self.same(sum_of([told(number) for number in numbers]), told(sum(numbers)))
            # In other forms, too.
            pairs = [(number.numerator * times, number.denominator * times) for number in numbers for times in (chance.randint(1, 9),)]
            self.assertEqual(Fraction(*added(pairs)), sum(numbers))
        self.same((sum_of([]), added([])), (0, (0, 1)))

    def test_bases(self):
        chance = random.Random(254)
        for _ in range(300):
            bases = [math.prod(chance.choice((1, 2, 3, 5, 7, 11, 13)) ** chance.randint(0, 9) for _ in range(3))
                     for _ in range(chance.randint(0, 6))]
            found = unlike_bases(bases)
            for prime in (2, 3, 5, 7, 11, 13):
                self.assertEqual(sum(base % prime == 0 for base in found), int(any(base % prime == 0 for base in bases)))
            self.assertTrue(all(base > 1 for base in found))

    def test_products_and_ratios(self):
        chance = random.Random(255)
        for _ in range(500):
            numbers = [Fraction(chance.randint(-30, 30), chance.choice((1, 2, 3, 4, 6, 35, 36, 2 ** 90))) for _ in range(chance.randint(0, 6))]
            self.same(product_of([told(number) for number in numbers]), told(math.prod(numbers, start=Fraction(1))))
            for one, other in zip(numbers, numbers[1:]):
                if other != 0:
                    self.same(ratio(told(one), told(other)), told(one / other))

    def test_edges(self):
        for bases in ([], [1], [2], [6, 1]):
            self.check(0, 6 ** 400 if 6 in bases else 1, bases)
            self.check(7, 1, bases)
        self.check(2 ** 4000, 2 ** 3999, [2])
        self.check(2 ** 3999, 2 ** 4000, [2])
        self.check(3 * 2 ** 5000, 6 ** 1000, [6])
        self.check(5, 6 ** 1000, [6])


class Abouts(Case):
    def some_number(self, chance):
        bits = chance.choice((0, 1, 3, 60, 319, 320, 321, 700, 3000))
        return Fraction(chance.getrandbits(bits) if bits else 0, 1 + chance.getrandbits(chance.choice((1, 64, 320, 2000))))

    def near(self, number):
        return about(number.numerator, number.denominator)

    def check(self, found, number):
        low, up = found
        here = Fraction(low) * Fraction(2) ** up
        self.assertLessEqual(abs(here - number) * 2 ** 300, number)
        self.assertIs(low == 0, number == 0)
        self.assertLessEqual(low.bit_length(), 1000)

    def test_near(self):
        chance = random.Random(247)
        for _ in range(3000):
            one, other = self.some_number(chance), self.some_number(chance)
            self.check(self.near(one), one)
            self.check(about_product(self.near(one), self.near(other)), one * other)
            self.check(about_sum(self.near(one), self.near(other)), one + other)

    def test_sure(self):
        chance = random.Random(248)
        for _ in range(3000):
            one = self.some_number(chance)
            other = chance.choice((self.some_number(chance), one * (1 + Fraction(chance.choice((-1, 0, 1)), 2 ** chance.randint(0, 600))), 2 * one))
            surely = is_surely_lower(self.near(one), self.near(other))
            if surely:
                self.assertLess(one, other)
            elif one < other:
                # Only what is off by next to nothing is not told.
                self.assertLess((other - one) * 2 ** 255, other)

    def test_at_least_times(self):
        chance = random.Random(253)
        for _ in range(1000):
            one, other = [self.some_number(chance) + Fraction(1, 10 ** 50) for _ in range(2)]
            times = at_least_times(self.near(one), self.near(other))
            self.assertGreaterEqual(times * other, one)
            # Nor are there many more.
            self.assertLessEqual((times - 2) * other * (2 ** 200 - 1), one * 2 ** 200)

    def test_zeros(self):
        zero, one = about(0, 7), about(1, 10 ** 40)
        self.same((is_surely_lower(zero, zero), is_surely_lower(zero, one), is_surely_lower(one, zero)), (False, True, False))
        self.same(worths_of(Greatest([Times(0, Hold(2, 0)), Hold(2, 1)]), 1), (0, 1))
        self.same(worths_of(Sum([BestMix(2, (0, 0)), Times(0, Hold(2, 1))]), 1), (1, 1))


if __name__ == "__main__":
    unittest.main()
