"""hindprice.books."""

import random
import unittest

from hindprice.books import Book
from hindprice.errors import BadDay, BadNumber, BadPromise, Misfit, TooMany
from hindprice.machines import Machine
from hindprice.prices import price, rest
from hindprice.promises import BestMix, BestWalk, Greatest, Hold, Mix, Sum, Then, Times
from hindprice.spares import Thrift
from hindprice.worths import has_best, worth, worth_at
from tests import oracle
from tests.support import NO_NUMBERS, Case, fraction, listed, told
from tests.test_afters import NO_DAYS
from tests.test_promises import NO_PROMISES

ONE, TWO = Hold(2, 0), Hold(2, 1)
HALF = ((1, 2), (1, 2))
CHAIN = Machine([(1, 0), (0, 1)], [(0, 0), (0, 1), (1, 1)])
WALK, BEST, CALM = BestWalk(CHAIN, (1, 0)), BestMix(2, (0, 0)), Greatest([ONE, TWO])
WORDS, COUNTS = TooMany("words", 4096), TooMany("counts", 5000)
NO_LENGTHS = NO_NUMBERS + [-1, 1001, (1, 2), 10 ** 40]
NOT_EQUAL = [None, 0, True, "book", (), CALM]


def state(book):
    return (book.promise, book.market, book.left, book.purse, book.amounts)


class DayByDay(Case):
    def check(self, promise, market, days):
        """Purse and amounts are the sums over all words of weights times rests."""
        book = Book(promise, days)
        for at in range(len(market) + 1):
            here = market[:at]
            self.same((book.market, book.left), (tuple(here), days - at))
            self.assertIs(book.promise == promise, True)
            self.same(book.purse, told(oracle.purse(promise, days, here)))
            wanted = tuple(told(amount) for amount in oracle.amounts(promise, days, here)) if at < days else ()
            self.same(book.amounts, wanted)
            if at < len(market):
                self.same(book.day(market[at]), told(oracle.purse(promise, days, market[:at + 1])))
        return book

    def test_some(self):
        chance = random.Random(111)
        for _ in range(150):
            goods = chance.randint(1, 3)
            promise = oracle.some_promise(chance, goods)
            days = chance.randint(0, 3)
            market = oracle.some_market(chance, goods, chance.randint(0, days))
            self.check(promise, market, days)

    def test_each_kind(self):
        days = [(3, (1, 2)), (0, 4), ((5, 3), 1), (0, 0)]
        for promise in (ONE, Mix(HALF), Times((3, 2), CALM), Times(0, CALM), Sum([ONE, BEST]), CALM, BEST, WALK,
                        BestMix(2, (3, 1)), Greatest([WALK, BEST]), Greatest([Then(1, ONE, TWO), Mix(HALF)]),
                        Then(0, Times(2, BEST), CALM), Then(2, CALM, BEST), Then(9, CALM, Times(3, BEST)),
                        Then(1, Then(1, WALK, CALM), Then(1, BEST, Sum([ONE, TWO])))):
            for many in range(4):
                self.check(promise, days[:many], many)
                self.check(promise, days[::-1][:many], 3)

    def test_the_last_purse_is_at_least_the_worth(self):
        chance = random.Random(112)
        for _ in range(200):
            goods = chance.randint(1, 3)
            promise = oracle.some_promise(chance, goods, best=False)
            days = chance.randint(0, 4)
            market = oracle.some_market(chance, goods, days)
            book = Book(promise, days)
            for day in market:
                book.day(day)
            self.assertGreaterEqual(fraction(book.purse), fraction(worth(promise, market)))
            if oracle.is_told_at_once(promise):
                self.same(book.purse, worth(promise, market))

    def test_lightnings(self):
        chance = random.Random(113)
        for _ in range(150):
            goods = chance.randint(1, 3)
            promise = oracle.some_promise(chance, goods)
            days = chance.randint(0, 4)
            word = oracle.some_word(chance, goods, days)
            book = Book(promise, days)
            self.same(book.purse, price(promise, days))
            for at, day in enumerate(oracle.lightnings(goods, word)):
                self.same(book.amounts, tuple(rest(promise, days, (*word[:at], good)) for good in range(goods)))
                self.same(book.day(day), rest(promise, days, word[:at + 1]))
            self.same(book.purse, worth_at(promise, word))

    def test_days_of_0s(self):
        for promise in (CALM, BEST, WALK, ONE, Then(1, CALM, BEST)):
            book = Book(promise, 3)
            book.day((2, 1))
            self.same((book.day((0, 0)), book.amounts, book.day((7, 7)), book.amounts), (0, (0, 0), 0, ()))

    def test_parts(self):
        chance = random.Random(114)
        for _ in range(80):
            goods = chance.randint(1, 3)
            one, other = (oracle.some_promise(chance, goods, 3) for _ in range(2))
            days = chance.randint(1, 4)
            market = oracle.some_market(chance, goods, days)
            books = [Book(one, days), Book(other, days), Book(Sum([one, other]), days), Book(Times((3, 2), one), days)]
            for day in market:
                first, second = fraction(books[0].purse), fraction(books[1].purse)
                self.same((books[2].purse, books[3].purse), (told(first + second), told(first * 3 / 2)))
                for good in range(goods):
                    first, second = fraction(books[0].amounts[good]), fraction(books[1].amounts[good])
                    self.same((books[2].amounts[good], books[3].amounts[good]), (told(first + second), told(first * 3 / 2)))
                for book in books:
                    self.same(book.purse, told(sum(map(fraction, book.amounts))))
                    made = told(oracle.paid(book.amounts, day))
                    self.same(book.day(day), made)
                    self.same(book.purse, made)

    def test_then(self):
        chance = random.Random(115)
        for _ in range(60):
            first, last = (oracle.some_promise(chance, 2, 3) for _ in range(2))
            ahead, days = chance.randint(0, 3), chance.randint(1, 5)
            until = min(ahead, days)
            whole, begun, ended = Book(Then(ahead, first, last), days), Book(first, until), Book(last, days - until)
            for at, day in enumerate(oracle.some_market(chance, 2, days)):
                book, other = (begun, ended) if at < until else (ended, begun)
                self.same(whole.amounts, tuple(
                    told(fraction(amount) * fraction(other.purse)) for amount in book.amounts))
                book.day(day)
                whole.day(day)
                self.same(whole.purse, told(fraction(begun.purse) * fraction(ended.purse)))

    def test_many_days(self):
        promise = Then(400, Sum([ONE, Times(2, Mix(HALF))]), Sum([ONE, TWO]))
        book = Book(promise, 1000)
        market = [(1, 3) if at % 2 else ((1, 2), (1, 2)) for at in range(1000)]
        for day in market:
            book.day(day)
        self.assertEqual(book.purse, worth(promise, market))
        self.same((book.left, book.amounts, len(book.market)), (0, (), 1000))

    def test_orderless_ones_for_60_days(self):
        chance = random.Random(116)
        for goods, days in ((1, 60), (2, 60), (3, 60), (5, 16)):
            promise = Greatest([Greatest([Hold(goods, good) for good in range(goods)]), BestMix(goods, [0] * goods),
                                Times(2, Mix([*[0] * (goods - 1), 1]))])
            book = Book(promise, days)
            for _ in range(days - 1):
                day = oracle.some_day(chance, goods)
                made = told(oracle.paid(book.amounts, day))
                self.assertEqual(book.day(day), made)
                self.assertEqual(sum(map(fraction, book.amounts)), fraction(book.purse))
            book.day((1,) * goods)
            self.same((book.left, book.amounts), (0, ()))

    def test_best_mix_for_60_days(self):
        # At lightnings in turn the best mix has the same of each good: 1 / 2 to the 60.
        book = Book(BEST, 60)
        for at in range(60):
            book.day((at % 2, 1 - at % 2))
        self.same(book.purse, (1, 1 << 60))

    def test_12_days_by_words(self):
        chance = random.Random(117)
        book = Book(Greatest([WALK, BEST, Then(6, ONE, TWO)]), 12)
        market = oracle.some_market(chance, 2, 12)
        for day in market:
            made = told(oracle.paid(book.amounts, day))
            self.same(book.day(day), made)
        worths = sum(oracle.weight(market, word) * fraction(worth_at(book.promise, word)) for word in oracle.words(2, 12))
        self.same(book.purse, told(worths))

    def test_great_numbers(self):
        great = 10 ** 39
        day = ((great, great - 1), (1, great))
        self.check(Greatest([Mix([(1, great), (great - 1, great)]), ONE]), [day] * 3, 4)


class Copies(Case):
    def test_copies_go_on_by_themselves(self):
        for promise in (CALM, BEST, WALK, ONE, Sum([CALM, Times(2, WALK)]), Then(2, CALM, BEST)):
            book = Book(promise, 3)
            book.day((2, 1))
            other = book.copy()
            self.assertIsInstance(other, Book)
            self.assertIs(other == book, True)
            before = state(other)
            self.same((state(book)[1:]), before[1:])
            book.day((3, 5))
            self.assertIs(other == book, False)
            self.same(state(other)[1:], before[1:])
            self.same(other.day((3, 5)), book.purse)
            self.same(state(other)[1:], state(book)[1:])
            self.assertIs(other == book, True)
            third = other.copy().copy()
            third.day((0, 1))
            self.same((third.left, third.amounts, other.left), (0, (), 1))
            self.same(other.day((0, 1)), third.purse)
            self.same(third.copy().amounts, ())

    def test_equality(self):
        self.assertIs(Book(CALM, 2) == Book(Greatest((Hold(2, 0), Hold(2, 1))), 2), True)
        self.assertIs(Book(CALM, 2) != Book(CALM, 2), False)
        self.assertIs(Book(CALM, 2) == Book(CALM, 3), False)
        self.assertIs(Book(CALM, 2) == Book(Greatest([TWO, ONE]), 2), False)
        one, other = Book(CALM, 2), Book(CALM, 1)
        one.day((1, 1))
        self.assertIs(one == other, False)
        other = Book(CALM, 2)
        other.day([1, 1])
        self.assertIs(one == other, True)
        other = Book(CALM, 2)
        other.day((1, (1, 2)))
        self.assertIs(one == other, False)
        for value in NOT_EQUAL + [Thrift(CALM, 2)]:
            self.assertIs(Book(CALM, 2) == value, False)
            self.assertIs(Book(CALM, 2) != value, True)


class Wrong(Case):
    def test_arguments(self):
        for value in NO_PROMISES:
            self.raises(BadPromise("promise"), Book, value, -1)
        for value in NO_LENGTHS:
            self.raises(BadNumber("days"), Book, WALK, value)
        self.assertIs(Book(promise=CALM, days=2) == Book(CALM, 2), True)

    def test_too_much_to_go_through(self):
        least, steps = BestMix(3, (0, 0, 0)), BestWalk(Machine([(1, 0, 0)], [(0, 0)]), [1])
        self.same(Book(WALK, 12).purse, 12)
        self.same((Book(least, 98).left, Book(Hold(5, 0), 1000).purse), (98, 1))
        for promise, days, error in (
                (WALK, 13, WORDS), (least, 99, COUNTS), (Sum([Hold(3, 1), least, steps]), 99, COUNTS),
                (Sum([steps, least]), 99, WORDS), (Times(0, steps), 8, WORDS), (Then(1, Times(0, Hold(3, 0)), least), 100, COUNTS),
                (Then(8, steps, least), 1000, WORDS), (Greatest([Then(1, ONE, TWO)]), 13, WORDS)):
            self.raises(error, Book, promise, days)

    def test_a_day_that_is_refused_changes_nothing(self):
        for promise in (CALM, BEST, WALK, ONE, Then(1, CALM, BEST)):
            book = Book(promise, 2)
            book.day((2, (1, 3)))
            before = state(book)
            for value in NO_DAYS:
                self.raises(BadDay("day"), book.day, value)
            self.same(state(book)[1:], before[1:])
            book.day((1, 1))
            before = state(book)
            for value in NO_DAYS:
                self.raises(BadDay("day"), book.day, value)
            self.raises(Misfit("days"), book.day, (1, 1))
            self.raises(Misfit("days"), book.day, day=[0, 0])
            self.same(state(book)[1:], before[1:])
        self.raises(Misfit("days"), Book(CALM, 0).day, (1, 1))
        self.raises(BadDay("day"), Book(CALM, 0).day, (1, 1, 1))

    def test_lists_that_are_changed_later(self):
        day = [[3, 2], 1]
        book = Book(CALM, 2)
        book.day(day)
        before = state(book)
        day[0][0] = 99
        day.append(5)
        self.same(state(book)[1:], before[1:])
        self.same(book.market, (((3, 2), 1),))
        self.same(listed(book.market), [[[3, 2], 1]])
        self.assertIs(has_best(book.promise), False)


if __name__ == "__main__":
    unittest.main()
