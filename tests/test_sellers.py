"""hindprice.sellers."""

import math
import random
import unittest
from fractions import Fraction

from hindprice.errors import BadMarket, BadSeller, BadWord
from hindprice.promises import Hold
from hindprice.sellers import Seller, amounts_of, has, led
from tests import oracle
from tests.support import NO_NUMBERS, STRANGE, Case, fraction, listed, told
from tests.test_worths import NO_MARKETS, NO_WORDS

HALF = ((1, 2), (1, 2))
ROW = (HALF, (0, 0))
EVEN = Seller(2, [ROW])
TURN = Seller((5, 2), [(HALF, (1, 2)), (((4, 5), (1, 5)), (1, 1)), (((1, 5), (4, 5)), (2, 0))])
NO_SELLERS = STRANGE + [0, (), [], 2, (2, [ROW]), [ROW], Seller, Hold(2, 0)]
GREAT = 10 ** 39


def some_seller(chance, goods, purse=None):
    many = chance.randint(1, 4)
    rows = [(oracle.some_mix(chance, goods), tuple(chance.randrange(many) for _ in range(goods))) for _ in range(many)]
    return Seller(oracle.some_number(chance) if purse is None else purse, rows)


def had(seller, word):
    """What a seller has at a word, good by good."""
    purse, standing = fraction(seller.purse), 0
    for good in word:
        shares, nexts = seller.rows[standing]
        purse, standing = purse * fraction(shares[good]), nexts[good]
    return purse


def all_led(seller, market):
    """The sum over all words of the days' numbers for its goods times what the seller has there."""
    return sum(oracle.weight(market, word) * had(seller, word) for word in oracle.words(seller.goods, len(market)))


class Sellers(Case):
    def test_by_place_by_name_and_in_lists(self):
        for purse, rows in ((2, [ROW]), ((7, 2), TURN.rows), (0, [((1,), (0,))] * 6),
                            (GREAT, [(((1, GREAT), (GREAT - 1, GREAT)), (1, 0))] * 2), (1, [((0, 0, 0, 0, 1), (0,) * 5)])):
            seller = Seller(purse, rows)
            for other in (Seller(purse=purse, rows=rows), Seller(rows=listed(rows), purse=listed(purse)),
                          Seller(purse, tuple(rows))):
                self.assertIs(seller == other, True)
                self.assertIs(seller != other, False)
                self.same((other.purse, other.rows, other.goods), (purse, tuple(rows), len(rows[0][0])))

    def test_equality(self):
        for other in (Seller(3, [ROW]), Seller(2, [ROW, ROW]), Seller(2, [((1, 0), (0, 0))]), Seller(2, [((1,), (0,))])):
            self.assertIs(EVEN == other, False)
        self.assertIs(Seller(1, [(HALF, (0, 1)), ROW]) == Seller(1, [(HALF, (1, 0)), ROW]), False)
        for value in STRANGE + [2, (2, ((HALF, (0, 0)),)), Seller]:
            self.assertIs(EVEN == value, False)

    def test_wrong_purses(self):
        for value in NO_NUMBERS + [-1, (-1, 2), [-7, 2], "2"]:
            self.raises(BadSeller("purse"), Seller, value, [ROW])
            self.raises(BadSeller("purse"), Seller, value, None)

    def test_wrong_rows(self):
        one = ((1,), (0,))
        for value in STRANGE + [
                0, [], (), [one] * 7, [ROW] * 7, ROW, [HALF], [(HALF,)], [(HALF, (0, 0), 0)], [(HALF, 0)], [(HALF, None)],
                [(HALF, (0,))], [(HALF, (0, 0, 0))], [(HALF, (0, 1))], [(HALF, (-1, 0))], [(HALF, (0, True))],
                [(HALF, (False, 0))], [(HALF, ("0", 0))], [(HALF, (0, 0.0))], [(HALF, ((0, 1), 0))], [((1, 1), (0, 0))],
                [((1, 2), (0, 0))], [((True, 0), (0, 0))], [(((3, 2), (-1, 2)), (0, 0))], [(((2, 4), (1, 2)), (0, 0))],
                [((), ())], [((0,) * 5 + (1,), (0,) * 6)], [ROW, one], [ROW, ((1, 0, 0), (0, 0, 0))], [ROW, None],
                [ROW, (HALF, (0, 2))], [ROW, ROW, (HALF, (3, 0))], [(None, (0, 0))], ["ab"], [{HALF: (0, 0)}]]:
            self.raises(BadSeller("rows"), Seller, 2, value)
        self.same(len(Seller(1, [ROW] * 6).rows), 6)

    def test_lists_that_are_changed_later(self):
        rows, purse = [[[[1, 2], [1, 2]], [0, 0]]], [5, 2]
        seller = Seller(purse, rows)
        rows[0][0][0][0] = 9
        rows[0][1][0] = 7
        rows.append(3)
        purse[0] = 0
        self.same((seller.purse, seller.rows), ((5, 2), (ROW,)))
        self.same((has(seller, [0]), led(seller, [[1, 3]])), ((5, 4), 5))


class AtWords(Case):
    def test_to_and_fro(self):
        for word, wanted in (((), (5, 2)), ((0,), (5, 4)), ((1,), (5, 4)), ((0, 0), 1), ((0, 1), (1, 4)), ((1, 0), (1, 4)),
                             ((1, 1), 1), ((1, 1, 0), (1, 2)), ((1, 1, 1, 1), (2, 5)), ([0, 0, 1, 0], (4, 25))):
            self.same(has(TURN, word), wanted)
            self.same(has(seller=TURN, word=list(word)), wanted)
        self.same(has(Seller([5, 2], [ROW]), ()), (5, 2))

    def test_some(self):
        chance = random.Random(131)
        for _ in range(200):
            seller = some_seller(chance, chance.randint(1, 5))
            word = oracle.some_word(chance, seller.goods, chance.randint(0, 12))
            self.same(has(seller, word), told(had(seller, word)))

    def test_goods_sum_up(self):
        chance = random.Random(132)
        for _ in range(50):
            seller = some_seller(chance, 3)
            word = oracle.some_word(chance, 3, 4)
            self.same(told(sum(fraction(has(seller, (*word, good))) for good in range(3))), has(seller, word))

    def test_wrong_arguments(self):
        for value in NO_SELLERS:
            self.raises(BadSeller("seller"), has, value, None)
        for value in NO_WORDS:
            self.raises(BadWord("word"), has, EVEN, value)
        self.raises(BadWord("word"), has, Seller(1, [((1,), (0,))]), (1,))


class Led(Case):
    def test_against_all_words(self):
        chance = random.Random(133)
        for _ in range(200):
            seller = some_seller(chance, chance.randint(1, 3))
            market = oracle.some_market(chance, seller.goods, chance.randint(0, 4))
            self.same(led(seller, market), told(all_led(seller, market)))
            self.same(led(seller=seller, market=listed(market)), told(all_led(seller, market)))

    def test_amounts(self):
        chance = random.Random(134)
        for _ in range(200):
            seller = some_seller(chance, chance.randint(1, 3))
            market = oracle.some_market(chance, seller.goods, chance.randint(0, 3))
            amounts = amounts_of(seller, market)
            wanted = tuple(told(sum(oracle.weight(market, word) * had(seller, (*word, good))
                                    for word in oracle.words(seller.goods, len(market)))) for good in range(seller.goods))
            self.same(amounts, wanted)
            self.same(amounts_of(seller=seller, market=listed(market)), wanted)
            self.same(told(sum(map(fraction, amounts))), led(seller, market))
            day = oracle.some_day(chance, seller.goods)
            self.same(told(oracle.paid(amounts, day)), led(seller, (*market, day)))

    def test_lightnings(self):
        chance = random.Random(135)
        for _ in range(50):
            seller = some_seller(chance, 3)
            word = oracle.some_word(chance, 3, chance.randint(0, 6))
            self.same(led(seller, oracle.lightnings(3, word)), has(seller, word))

    def test_by_hand(self):
        self.same((led(EVEN, []), amounts_of(EVEN, ()), led(Seller([5, 2], [ROW]), ())), (2, (1, 1), (5, 2)))
        self.same((led(EVEN, [(3, 1)] * 3), amounts_of(EVEN, [(3, 1)] * 3)), (16, (8, 8)))
        self.same((led(TURN, [(0, 0)]), amounts_of(TURN, [(0, 0)])), (0, (0, 0)))
        self.same(led(Seller(0, TURN.rows), [(3, 1)]), 0)
        self.same(led(EVEN, [(4, (2, 3))] * 60), told(2 * Fraction(7, 3) ** 60))
        self.same(led(Seller(1, [((1,), (0,))]), [(7,), ((1, 2),)]), (7, 2))

    def test_many_days_and_great_numbers(self):
        shares = ((1, GREAT), (GREAT - 1, GREAT))
        seller = Seller((GREAT, GREAT + 1), [(shares, (0, 0))])
        market = [(GREAT, (1, GREAT)), ((GREAT + 1, GREAT), 3)] * 10
        self.same(led(seller, market), told(fraction(seller.purse) * math.prod(oracle.paid(shares, day) for day in market)))

    def test_wrong_arguments(self):
        for call in (led, amounts_of):
            for value in NO_SELLERS:
                self.raises(BadSeller("seller"), call, value, None)
            for value in NO_MARKETS:
                self.raises(BadMarket("market"), call, EVEN, value)
            self.raises(BadMarket("market"), call, EVEN, [(1, 1, 1)])


if __name__ == "__main__":
    unittest.main()
