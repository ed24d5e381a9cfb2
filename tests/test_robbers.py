"""hindprice.robbers."""

import random
import unittest

from hindprice.books import Book
from hindprice.errors import BadNumber, BadPromise, BadSeller, Misfit, TooMany
from hindprice.machines import Machine
from hindprice.papers import Denial, Paper
from hindprice.prices import price, rest
from hindprice.promises import BestMix, BestWalk, Greatest, Hold, Mix, Sum, Then, Times
from hindprice.robbers import Robbed, Safe, judged_seller, robbed
from hindprice.sellers import Seller, has, led
from hindprice.worths import worth, worth_at
from tests import oracle
from tests.support import Case, fraction, told
from tests.test_prices import NO_LENGTHS
from tests.test_promises import NO_PROMISES
from tests.test_sellers import EVEN, HALF, NO_SELLERS, ROW, had, some_seller

ONE, TWO = Hold(2, 0), Hold(2, 1)
CHAIN = Machine([(1, 0), (0, 1)], [(0, 0), (0, 1), (1, 1)])
WALK, BEST, CALM = BestWalk(CHAIN, (1, 0)), BestMix(2, (0, 0)), Greatest([ONE, TWO])
JUST = Seller((5, 2), [(HALF, (1, 2)), (((4, 5), (1, 5)), (1, 1)), (((1, 5), (4, 5)), (2, 2))])
WORDS, COUNTS = TooMany("words", 4096), TooMany("counts", 5000)


def some(seed, many):
    chance = random.Random(seed)
    for _ in range(many):
        goods = chance.randint(1, 3)
        yield chance, oracle.some_promise(chance, goods, 3), chance.randint(0, 3), some_seller(chance, goods)


def short_words(promise, days, seller):
    return [word for word in oracle.words(promise.goods, days) if had(seller, word) < oracle.worth_at(promise, word)]


class Papers(Case):
    def test_safe(self):
        paper = Safe()
        self.same((paper.word, paper.parts, bool(paper)), ("safe", (), True))
        self.assertIsInstance(paper, Paper)
        self.assertNotIsInstance(paper, Denial)
        self.assertIs(paper == Safe(), True)
        self.assertIs(paper == Paper("safe"), False)
        self.assertIs(paper == Robbed((), 0, 1), False)

    def test_robbed(self):
        paper = Robbed([0, [1]], [1, 2], owes=None)
        self.same((paper.word, paper.parts, paper.course, paper.has, paper.owes, bool(paper)),
                  ("robbed", ((0, (1,)), (1, 2), None), (0, (1,)), (1, 2), None, False))
        self.assertIsInstance(paper, Denial)
        self.assertIs(paper == Robbed(owes=None, has=(1, 2), course=(0, (1,))), True)
        self.assertIs(paper == Robbed((0, (1,)), (1, 2), 1), False)
        self.assertIs(paper == Denial("robbed", *paper.parts), False)


class Judged(Case):
    def check(self, promise, days, seller):
        short = short_words(promise, days, seller)
        judged = judged_seller(promise, days, seller)
        if short:
            self.assertIsInstance(judged, Robbed)
            self.assertIn(judged.course, short)
            self.same((judged.has, judged.owes), (told(had(seller, judged.course)),
                                                  told(oracle.worth_at(promise, judged.course))))
        else:
            self.assertIs(judged == Safe(), True)
        self.assertIs(judged_seller(promise=promise, days=days, seller=seller) == judged, True)
        return not short

    def test_against_all_words(self):
        safe = [self.check(promise, days, seller) for _, promise, days, seller in some(141, 250)]
        self.assertTrue(any(safe))
        self.assertFalse(all(safe))

    def test_books_as_sellers(self):
        # A seller with just the price that lies on the goods as the book does is safe for two days.
        chance = random.Random(142)
        for _ in range(60):
            goods = chance.randint(1, 4)
            promise = oracle.some_promise(chance, goods, 3)
            book = Book(promise, 2)
            if all(amount != 0 for amount in book.amounts):
                rows = [[[told(fraction(amount) / fraction(book.purse)) for amount in book.amounts], range(1, goods + 1)]]
                for good in range(goods):
                    other = book.copy()
                    other.day([int(at == good) for at in range(goods)])
                    rows.append([[told(fraction(amount) / fraction(other.purse)) for amount in other.amounts], [0] * goods])
                rows[0][1] = list(rows[0][1])
                self.assertIs(self.check(promise, 2, Seller(book.purse, rows)), True)
                self.assertIs(self.check(promise, 2, Seller(told(fraction(book.purse) * 999 / 1000), rows)), False)

    def test_by_hand(self):
        self.assertIs(judged_seller(BEST, 2, JUST) == Safe(), True)
        self.assertIs(judged_seller(CALM, 1, EVEN) == Safe(), True)
        self.assertIs(judged_seller(Times(0, BEST), 12, Seller(0, [ROW])) == Safe(), True)
        self.assertIs(judged_seller(WALK, 0, Seller(1, [ROW])) == Safe(), True)
        self.assertIs(judged_seller(WALK, 0, Seller((1, 2), [ROW])) == Robbed((), (1, 2), 1), True)
        self.assertIs(judged_seller(Hold(1, 0), 1000, Seller(1, [((1,), (0,))])) == Safe(), True)
        self.assertIs(judged_seller(CALM, 12, EVEN).has == (1, 2048), True)

    def test_safe_sellers_are_short_at_no_market(self):
        chance = random.Random(143)
        found = 0
        for _ in range(300):
            promise = oracle.some_promise(chance, 2, 2, best=False)
            days = chance.randint(0, 3)
            seller = some_seller(chance, 2, purse=chance.choice((8, 20)))
            if judged_seller(promise, days, seller):
                found += 1
                self.assertGreaterEqual(fraction(seller.purse), fraction(price(promise, days)))
                market = oracle.some_market(chance, 2, days)
                self.assertGreaterEqual(fraction(led(seller, market)), fraction(worth(promise, market)))
        self.assertGreater(found, 20)

    def test_too_many_words(self):
        for promise in (ONE, CALM, WALK, Mix(HALF)):
            self.raises(WORDS, judged_seller, promise, 13, EVEN)
            self.raises(WORDS, judged_seller, promise, 1000, EVEN)
        self.assertIs(bool(judged_seller(Sum([WALK, BEST]), 12, Seller(4096 * 2, [ROW]))), True)


class GoodByGood(Case):
    def by_hand(self, promise, days, seller):
        """The word at which a seller is robbed good by good."""
        word = ()
        for _ in range(days):
            word = next((*word, good) for good in range(promise.goods)
                        if had(seller, (*word, good)) < oracle.rest(promise, days, (*word, good)))
        return word

    def check(self, promise, days, seller):
        word = self.by_hand(promise, days, seller)
        paper = robbed(promise, days, seller)
        self.assertIsInstance(paper, Robbed)
        self.same(paper.parts, (word, told(had(seller, word)), told(oracle.worth_at(promise, word))))
        self.assertLess(fraction(paper.has), fraction(paper.owes))
        self.assertIs(robbed(promise=promise, days=days, seller=seller) == paper, True)

    def test_against_rests_by_hand(self):
        found = 0
        for _, promise, days, seller in some(144, 300):
            if fraction(seller.purse) < oracle.price(promise, days):
                found += 1
                self.check(promise, days, seller)
            else:
                self.raises(Misfit("seller"), robbed, promise, days, seller)
        self.assertGreater(found, 50)

    def test_purses_at_the_price_below_it_and_0(self):
        chance = random.Random(145)
        for _ in range(100):
            goods = chance.randint(1, 3)
            promise, days = oracle.some_promise(chance, goods, 3), chance.randint(0, 3)
            whole = price(promise, days)
            rows = some_seller(chance, goods).rows
            self.raises(Misfit("seller"), robbed, promise, days, Seller(whole, rows))
            if whole != 0:
                self.check(promise, days, Seller(told(fraction(whole) * 999999 / 1000000), rows))
                self.check(promise, days, Seller(0, rows))

    def test_promises_worth_nothing(self):
        for purse in (0, 1):
            self.raises(Misfit("seller"), robbed, Times(0, BEST), 3, Seller(purse, [ROW]))
            self.raises(Misfit("seller"), robbed, BestWalk(CHAIN, (0, 0)), 0, Seller(purse, [ROW]))

    def test_no_days(self):
        self.assertIs(robbed(BEST, 0, Seller((1, 2), [ROW])) == Robbed((), (1, 2), 1), True)
        self.assertIs(robbed(Times((3, 2), WALK), 0, Seller([1, 2], [ROW])) == Robbed((), (1, 2), (3, 2)), True)
        self.raises(Misfit("seller"), robbed, BEST, 0, Seller(1, [ROW]))

    def test_many_days(self):
        three = Greatest([Hold(3, 0), Hold(3, 1), Mix([(1, 3), (1, 3), (1, 3)])])
        for promise, days, seller in (
                (CALM, 60, Seller(1, [ROW])), (three, 60, Seller((5, 4), [(((1, 3), (1, 3), (1, 3)), (0, 0, 0))])),
                (Then(30, ONE, Sum([ONE, TWO])), 60, Seller((19, 10), [ROW])), (WALK, 12, Seller((23, 2), [ROW]))):
            paper = robbed(promise, days, seller)
            self.same(len(paper.course), days)
            self.same((paper.has, paper.owes), (has(seller, paper.course), worth_at(promise, paper.course)))
            for many in range(1, days + 1, 7):
                self.assertLess(fraction(has(seller, paper.course[:many])), fraction(rest(promise, days, paper.course[:many])))
        paper = robbed(Then(400, ONE, TWO), 1000, Seller((9, 10), [((1, 0), (0, 0))]))
        self.same(paper.course, (0,) * 400 + (1,) * 600)
        self.same((paper.has, paper.owes), (0, 1))

    def test_too_much_to_go_through(self):
        least, steps = BestMix(3, (0, 0, 0)), BestWalk(Machine([(1, 0, 0)], [(0, 0)]), [1])
        thirds = (((1, 3), (1, 3), (1, 3)), (0, 0, 0))
        for purse in (0, 10 ** 39):
            # TooMany is ahead of Misfit.
            seller = Seller(purse, [thirds])
            self.raises(COUNTS, robbed, Sum([least, steps]), 99, seller)
            self.raises(WORDS, robbed, Sum([steps, least]), 99, seller)
            self.raises(WORDS, robbed, Times(0, steps), 8, seller)
            self.raises(WORDS, robbed, WALK, 13, Seller(purse, [ROW]))


class WrongArguments(Case):
    def test_one_and_several(self):
        for call in (judged_seller, robbed):
            for value in NO_PROMISES:
                self.raises(BadPromise("promise"), call, value, -1, None)
            for value in NO_LENGTHS:
                self.raises(BadNumber("days"), call, BEST, value, None)
            for value in NO_SELLERS:
                self.raises(BadSeller("seller"), call, BEST, 2, value)
                self.raises(BadSeller("seller"), call, WALK, 1000, value)
            for goods in (1, 3, 4, 5):
                other = Seller(1, [((0,) * (goods - 1) + (1,), (0,) * goods)])
                self.raises(BadSeller("seller"), call, BEST, 2, other)
                self.raises(BadSeller("seller"), call, WALK, 1000, other)


if __name__ == "__main__":
    unittest.main()
