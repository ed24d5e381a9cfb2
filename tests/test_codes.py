"""hindprice.codes and hindprice.lags."""

import random
import unittest
import unittest.mock
from fractions import Fraction

from hindprice.codes import code_of, codes_of, read_codes, word_of
from hindprice.errors import BadCode, BadNumber, BadPromise, BadWord, Misfit, TooMany
from hindprice.lags import Lag, lag, shows_lag
from hindprice.machines import Machine
from hindprice.measures import Measure
from hindprice.papers import Denial, Paper
from hindprice.prices import price
from hindprice.promises import BestMix, BestWalk, Greatest, Hold, Mix, Sum, Then, Times
from hindprice.walks import Walked
from tests import oracle
from tests.support import NO_NUMBERS, STRANGE, Case, told
from tests.test_prices import NO_LENGTHS
from tests.test_promises import NO_PROMISES
from tests.test_worths import NO_WORDS

WISE, ONE, TWO = BestMix(2, (0, 0)), Hold(2, 0), Hold(2, 1)
HALF = ((1, 2), (1, 2))
EITHER = Greatest([ONE, TWO])
WALK = BestWalk(Machine([(1, 0), (0, 1)], [(0, 0), (0, 1), (1, 1)]), (1, 0))
WORDS = TooMany("words", 4096)
NO_SIGNS = STRANGE[:3] + [0, 1, (), [], "2", "01 ", " ", "0 1", "01\n", "0b1", "-1", "O", "\u0661", b"01", ["0", "1"], 1.0, {}, None]


def code(price, ahead, worth):
    """The code by its definition."""
    length = 1
    while 2 ** (length - 1) * worth < price:
        length += 1
    figures, left = "", (ahead + worth / 2) / price
    for _ in range(length):
        left *= 2
        figures += str(int(left >= 1))
        left -= int(left >= 1)
    return figures


def codes(promise, days):
    """All pairs of word and code by their definition."""
    words = oracle.words(promise.goods, days)
    worths = [oracle.worth_at(promise, word) for word in words]
    return tuple((word, code(sum(worths), sum(worths[:at]), worths[at])) for at, word in enumerate(words) if worths[at] > 0)


def some(seed, many, most=5):
    chance = random.Random(seed)
    for _ in range(many):
        goods = chance.randint(1, 3)
        yield chance, oracle.some_promise(chance, goods, 4), chance.randint(0, most if goods < 3 else 3)


class Codes(Case):
    def check(self, promise, days):
        wanted = codes(promise, days)
        self.same(codes_of(promise, days), wanted)
        by_word = dict(wanted)
        for word in oracle.words(promise.goods, days):
            if word in by_word:
                self.same(code_of(promise, days, word), by_word[word])
            else:
                self.raises(Misfit("word"), code_of, promise, days, word)
        found = [code for _, code in wanted]
        for one in found:
            self.assertEqual([other for other in found if other.startswith(one)], [one])
        self.assertLessEqual(sum(Fraction(1, 2 ** len(one)) for one in found), Fraction(1, 2))
        return wanted

    def test_by_definition(self):
        for _, promise, days in some(211, 150):
            self.check(promise, days)

    def test_worths_that_are_all_but_nothing(self):
        great = 10 ** 40 - 1
        for days in (1, 2, 4):
            self.check(Mix([(1, great), (great - 1, great)]), days)
            self.check(Greatest([Times((1, great), ONE), TWO, BestWalk(WALK.machine, [(1, great), 0])]), days)
        self.same(len(code_of(Mix([(1, great), (great - 1, great)]), 9, (0,) * 9)), 1 + 1196)

    def test_prices_that_are_powers_of_2(self):
        # Here a figure changes just at the middle of a worth.
        for promise in (Mix(HALF), Times((1, 3), Mix(HALF)), Times((10 ** 39, 7), Mix(HALF)), Sum([Mix(HALF)] * 3), EITHER,
                        Mix([(1, 4), (3, 4)]), Greatest([Times((1, 3), ONE), Times((1, 3), TWO)])):
            for days in range(5):
                self.check(promise, days)
        third = codes_of(Times((1, 3), Mix(HALF)), 12)
        self.same(third, tuple((word, f"{2 * at + 1:013b}") for at, word in enumerate(oracle.words(2, 12))))
        self.same(codes_of(Mix(HALF), 12), third)

    def test_one_word_alone(self):
        self.same(codes_of(TWO, 3), (((1, 1, 1), "1"),))
        self.same(codes_of(Hold(1, 0), 1000), (((0,) * 1000, "1"),))
        self.same(codes_of(Times((3, 7), EITHER), 0), (((), "1"),))
        self.same(code_of(promise=ONE, days=0, word=[]), "1")

    def test_price_of_0(self):
        for promise in (Times(0, EITHER), BestWalk(WALK.machine, (0, 0))):
            self.same(codes_of(promise, 3), ())
            self.raises(Misfit("word"), code_of, promise, 2, (0, 0))
            self.raises(Misfit("promise"), word_of, promise, 2, "")
            self.raises(Misfit("promise"), read_codes, promise, 2, "")

    def test_just_4096_words_and_more(self):
        for promise in (WISE, EITHER, WALK, Then(3, ONE, WISE)):
            pairs = codes_of(promise, 12)
            self.assertEqual([word for word, _ in pairs], sorted(word for word, _ in pairs))
            for word, sign in pairs[::501]:
                self.same(word_of(promise, 12, sign), word)
                self.same(code_of(promise, 12, word), sign)
            self.same(read_codes(promise, 12, "".join(sign for _, sign in pairs[:100])), tuple(word for word, _ in pairs[:100]))
        self.same(len(codes_of(WISE, 12)), 4096)
        self.same(len(codes_of(BestMix(5, (0,) * 5), 5)), 3125)
        for promise in (WISE, ONE, Times(0, WALK)):
            for days in (13, 1000):
                self.raises(WORDS, codes_of, promise, days)
                self.raises(WORDS, code_of, promise, days, (0,) * days)
                self.raises(WORDS, word_of, promise, days, "0")
                self.raises(WORDS, read_codes, promise, days, "0")

    def test_as_short_as_the_best_opinion(self):
        # 2 to the length less 2, times the worth by each opinion, is below the price.
        both = Greatest([Mix([(1, 3), (2, 3)]), Mix([(4, 5), (1, 5)]), WISE])
        whole = oracle.price(both, 6)
        for word, sign in codes_of(both, 6):
            for part in both.parts:
                self.assertLess(Fraction(2) ** (len(sign) - 2) * oracle.worth_at(part, word), whole)


class Measured(Case):
    """Where little is measured, most is to be reckoned out: nothing is told wrong."""

    def setUp(self):
        self.enterContext(unittest.mock.patch("hindprice.measures.MORE_BITS", 4))

    def great(self, chance):
        """A promise whose worths are measured by no binary figures."""
        kinds = [Mix([(1, 3), (2, 3)]), Times((5, 7), EITHER), BestMix(2, (1, 0)), Mix([(3, 7), (4, 7)]), Times((1, 3), Mix(HALF)), WALK]
        return Sum([Times((chance.randint(1, 9), 11), chance.choice(kinds)) for _ in range(chance.randint(1, 6))])

    def test_codes(self):
        chance = random.Random(215)
        for _ in range(120):
            promise, days = self.great(chance), chance.randint(0, 5)
            self.same(codes_of(promise, days), codes(promise, days))
            words = list(dict(codes(promise, days)))
            for word in chance.sample(words, min(3, len(words))):
                self.same(code_of(promise, days, word), dict(codes(promise, days))[word])

    def test_lags(self):
        chance = random.Random(216)
        for _ in range(80):
            promise, days = self.great(chance), chance.randint(0, 4)
            lengths = some_lengths(chance, 2 ** days)
            wanted = lagging(promise, days, lengths)
            self.same(lag(promise, days, lengths).course, wanted[0])
            for word in oracle.words(2, days):
                self.assertIs(shows_lag(promise, days, lengths, Lag(word)), word in wanted)

    def test_all_but_at_the_price(self):
        for bits in (4, 64):
            with unittest.mock.patch("hindprice.measures.MORE_BITS", bits):
                for many in [*range(2, 90), 10 ** 20, 10 ** 39]:
                    less = told(Fraction(many, many + 1))
                    for promise in (Sum([Times(less, ONE), TWO]), Times((1, 3), Sum([Times(less, ONE), TWO]))):
                        self.assertIs(shows_lag(promise, 1, [1, 1], Lag((0,))), False)
                        self.assertIs(shows_lag(promise, 1, [1, 1], Lag((1,))), True)
                        self.assertIs(shows_lag(promise, 1, [2, 1], Lag((0,))), True)
                        self.same(lag(promise, 1, [1, 1]).course, (1,))
                        self.same(codes_of(promise, 1), codes(promise, 1))

    def test_units_at_least_and_at_most(self):
        chance = random.Random(217)
        for bits in (4, 8, 64):
            with unittest.mock.patch("hindprice.measures.MORE_BITS", bits):
                for _ in range(30):
                    promise, days = self.great(chance), chance.randint(0, 4)
                    measure = Measure(promise, days)
                    unit = Fraction(1, 2 ** measure.bits)
                    ahead = 0
                    for place, word in enumerate(oracle.words(2, days)):
                        worth = oracle.worth_at(promise, word) / unit
                        least, slack = measure.leasts[place], measure.slacks[place]
                        self.assertTrue(least <= worth < least + slack or worth == least and slack == 0)
                        self.assertTrue(measure.starts[place] <= ahead <= measure.starts[place] + measure.behinds[place])
                        self.assertTrue(worth == 0 or worth >= 2 ** bits)
                        ahead += worth
                    self.assertTrue(measure.starts[-1] <= ahead <= measure.starts[-1] + measure.behinds[-1])


class Reading(Case):
    def test_word_of(self):
        for chance, promise, days in some(212, 80, 4):
            if oracle.price(promise, days) == 0:
                self.raises(Misfit("promise"), word_of, promise, days, "1")
                continue
            known = {sign: word for word, sign in codes(promise, days)}
            for sign, word in known.items():
                self.same(word_of(promise, days, sign), word)
                self.same(word_of(code=sign, days=days, promise=promise), word)
                for other in (sign + "0", sign + "1", sign[:-1], "0" + sign, "1" + sign):
                    if other not in known:
                        self.raises(Misfit("code"), word_of, promise, days, other)
            if "" not in known:
                self.raises(Misfit("code"), word_of, promise, days, "")

    def test_texts(self):
        for chance, promise, days in some(213, 80, 4):
            if oracle.price(promise, days) == 0:
                continue
            pairs = codes(promise, days)
            for many in (0, 1, 2, 7):
                told_pairs = [chance.choice(pairs) for _ in range(many)]
                text = "".join(sign for _, sign in told_pairs)
                self.same(read_codes(promise, days, text), tuple(word for word, _ in told_pairs))
                self.same(read_codes(text=text, promise=promise, days=days), tuple(word for word, _ in told_pairs))
                for cut in range(1, len(told_pairs[-1][1]) if many else 0):
                    self.raises(Misfit("text"), read_codes, promise, days, text[:-cut])
        self.same(read_codes(WISE, 2, ""), ())

    def test_other_texts(self):
        for text in ("11000", "0", "1", "10", "0010", "00111", "110001110" + "01", "01111", "0001"):
            self.raises(Misfit("text"), read_codes, WISE, 2, text)
        self.same(read_codes(WISE, 2, "110001110"), ((1, 1), (0, 0), (1, 1)))
        first = code_of(EITHER, 12, (0,) * 12)
        self.same(read_codes(EITHER, 12, first * (20000 // len(first))), ((0,) * 12,) * (20000 // len(first)))

    def test_signs(self):
        for value in NO_SIGNS:
            for days in (2, 13):
                self.raises(BadCode("code"), word_of, WISE, days, value)
                self.raises(BadCode("text"), read_codes, WISE, days, value)
                self.raises(BadCode("code"), word_of, Times(0, WISE), days, value)
                self.raises(BadCode("text"), read_codes, Times(0, WISE), days, value)


class WrongArguments(Case):
    CALLS = [(code_of, (None,)), (codes_of, ()), (word_of, (None,)), (read_codes, (None,)), (lag, (None,)), (shows_lag, (None, None))]

    def test_promises_and_days(self):
        for call, last in self.CALLS:
            for value in NO_PROMISES:
                self.raises(BadPromise("promise"), call, value, -1, *last)
            for value in NO_LENGTHS:
                for promise in (WISE, Times(0, WISE)):
                    self.raises(BadNumber("days"), call, promise, value, *last)

    def test_words(self):
        for value in NO_WORDS + [(), (0,), (0, 1, 0), (0, 0, 0)]:
            for promise in (WISE, Times(0, WISE)):
                self.raises(BadWord("word"), code_of, promise, 2, value)
                self.raises(BadWord("word"), code_of, promise, 13, value)


def lagging(promise, days, lengths):
    """The words at which lengths lag, by the definition."""
    words = oracle.words(promise.goods, days)
    worths = [oracle.worth_at(promise, word) for word in words]
    return [word for word, worth, length in zip(words, worths, lengths) if 2 ** length * worth >= sum(worths)]


def some_lengths(chance, many):
    """Lengths of codes of which none begins another one."""
    lengths = [0]
    while len(lengths) < many:
        at = chance.randrange(len(lengths))
        lengths[at:at + 1] = [lengths[at] + 1] * 2
    if chance.random() < 0.4:
        lengths = [length + chance.choice((0, 0, 1, 3)) for length in lengths]
    chance.shuffle(lengths)
    return lengths


class Lags(Case):
    def test_by_definition(self):
        for chance, promise, days in some(214, 200, 4):
            lengths = some_lengths(chance, promise.goods ** days)
            if oracle.price(promise, days) == 0:
                self.raises(Misfit("promise"), lag, promise, days, lengths)
                self.raises(Misfit("promise"), shows_lag, promise, days, lengths, Lag(()))
                continue
            wanted = lagging(promise, days, lengths)
            paper = lag(promise, days, lengths)
            self.assertIs(type(paper), Lag)
            self.assertIn(paper.course, wanted)
            self.assertIs(lag(days=days, lengths=tuple(lengths), promise=promise) == paper, True)
            for word in oracle.words(promise.goods, days):
                self.assertIs(shows_lag(promise, days, lengths, Lag(word)), word in wanted)
                self.assertIs(shows_lag(value=Lag(list(word)), days=days, lengths=tuple(lengths), promise=promise), word in wanted)

    def test_at_the_first_and_at_the_last(self):
        # Of two words worth 1 each, the price being 2, one with length 1 lags just so.
        self.same(lag(EITHER, 1, [1, 1]).course, (0,))
        for lengths, word in (([0, 1000], (0,)), ([1000, 0], (1,))):
            self.raises(Misfit("lengths"), lag, EITHER, 1, lengths)
        self.assertIs(shows_lag(Hold(2, 0), 1, [1, 1], Lag((0,))), True)
        self.assertIs(shows_lag(Hold(2, 0), 1, [1, 1], Lag((1,))), False)
        self.same(lag(TWO, 2, [2, 2, 2, 2]).course, (1, 1))
        self.same(lag(WISE, 2, [1, 3, 3, 2]).course, (1, 1))
        self.same(lag(ONE, 12, [1000] * 4096).course, (0,) * 12)
        self.same(lag(TWO, 12, [12] * 4096).course, (1,) * 12)
        self.same(lag(Times((1, 3), Mix(HALF)), 12, [12] * 4096).course, (0,) * 12)
        self.same(lag(Hold(1, 0), 1000, [0]).course, (0,) * 1000)

    def test_sums_of_just_1_and_above_it(self):
        for lengths in ([1, 2, 3, 3], [2] * 4, [1, 2, 3, 1000], [1, 1, 1000, 1000], [999, 1000, 1000, 1000], [0, 0, 0, 0], [0, 1000, 1000, 1000],
                        [1, 2, 2, 1000], [1, 3, 3, 3]):
            if sum(Fraction(1, 2 ** length) for length in lengths) <= 1:
                self.assertIn(lag(WISE, 2, lengths).course, lagging(WISE, 2, lengths))
            else:
                self.raises(Misfit("lengths"), lag, WISE, 2, lengths)
                self.raises(Misfit("lengths"), shows_lag, WISE, 2, lengths, None)
        self.raises(Misfit("lengths"), lag, Times((1, 2), ONE), 1, (0, 1000))

    def test_just_at_the_price(self):
        great = 10 ** 39
        promise = Sum([Times((1, great + 3), Mix(HALF)), Times((1, great + 7), EITHER)])
        whole = oracle.price(promise, 2)
        for word in oracle.words(2, 2):
            exact = oracle.worth_at(promise, word)
            for length in (0, 1, 2, 3):
                lengths = [1000] * 4
                lengths[word[0] * 2 + word[1]] = length
                if length > 0:
                    self.assertIs(shows_lag(promise, 2, lengths, Lag(word)), 2 ** length * exact >= whole)
        # Twice the worth is just the price, or short of it by next to nothing.
        for number, wanted in ((1, True), ((great, great + 1), False), ((great + 1, great), True)):
            promise = Sum([Times(number, ONE), TWO])
            self.assertIs(shows_lag(promise, 1, [1, 1], Lag((0,))), wanted)
        self.assertIs(shows_lag(Times((1, 3), EITHER), 1, [1, 1], Lag((1,))), True)

    def test_faults(self):
        lengths = [1, 2, 3, 3]
        self.assertIs(shows_lag(WISE, 2, lengths, Lag([1, 1])), True)

        class Below(Lag):
            pass

        for value in STRANGE + [0, (), (1, 1), [1, 1], Lag, Below((1, 1)), Paper("lag", (1, 1)), Denial("lag", (1, 1)), Walked((1, 1), 1)]:
            self.assertIs(shows_lag(WISE, 2, lengths, value), False)
        for word in STRANGE + [0, 3, (), (1,), (1, 1, 1), (1, 2), (-1, 1), (True, 1), (1, True), (1.0, 1), "11", ("1", "1"), ((1,), (1,)),
                               ((1, 1),), (1, None)]:
            self.assertIs(shows_lag(WISE, 2, lengths, Lag(word)), False, word)

    def test_wrong_lengths(self):
        for value in STRANGE + [0, (), (2,), (2, 2), (2,) * 3, (2,) * 5, (2, 2, 2, -1), (2, 2, 2, 1001), (2, 2, 2, True), (2, 2, 2, None),
                                ((2, 2), (2, 2)), "2222", (2, 2, 2, 2.0), (2, 2, 2, (1, 2)), {0: 2, 1: 2, 2: 2, 3: 2}, [[2, 2, 2, 2]]]:
            for promise in (WISE, Times(0, WISE)):
                self.raises(BadCode("lengths"), lag, promise, 2, value)
                self.raises(BadCode("lengths"), shows_lag, promise, 2, value, Lag((1, 1)))
                # Too many words come ahead of lengths, a price of 0 behind them.
                self.raises(WORDS, lag, promise, 13, value)
                self.raises(WORDS, shows_lag, promise, 1000, value, None)
        for lengths in ([2] * 4, [0] * 4):
            self.raises(Misfit("promise"), lag, Times(0, WISE), 2, lengths)
            self.raises(Misfit("promise"), shows_lag, Times(0, WISE), 2, lengths, None)

    def test_papers(self):
        paper = Lag(course=[0, [1]])
        self.same((paper.word, paper.parts, paper.course, bool(paper)), ("lag", ((0, (1,)),), (0, (1,)), True))
        self.assertNotIsInstance(paper, Denial)
        self.assertIs(paper == Lag((0, (1,))), True)
        self.assertIs(paper == Lag(()), False)


if __name__ == "__main__":
    unittest.main()
