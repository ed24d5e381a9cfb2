"""hindprice.growth and hindprice.check_growth."""

import itertools
import math
import random
import unittest
from fractions import Fraction

from hindprice.check_growth import shows_growth
from hindprice.errors import BadNumber, BadPromise, Misfit
from hindprice.growth import Splits, Steady, judged_growth, lap_factor, lap_floor, steady_most, tunes_of
from hindprice.machines import Machine
from hindprice.papers import Denial, Paper
from hindprice.prices import price
from hindprice.promises import BestMix, BestWalk, Hold, Times
from hindprice.walks import Walked, met, switching
from tests import oracle
from tests.support import NO_NUMBERS, STRANGE, Case, fraction, listed, told
from tests.test_promises import NO_PROMISES

PURE, HALF = [(1, 0), (0, 1)], ((1, 2), (1, 2))
ALL = list(itertools.product(range(2), repeat=2))
CHAIN, FREE, TURN = Machine(PURE, [(0, 0), (0, 1), (1, 1)]), Machine(PURE, ALL), Machine(PURE, [(0, 1), (1, 0)])
NO_WALKS = NO_PROMISES + [Hold(2, 0), BestMix(2, (0, 0)), Times(1, BestWalk(CHAIN, (1, 0))), CHAIN]
NO_DAYS = NO_NUMBERS + [-1, 61, (1, 2), 10 ** 40]
TWO_LOTS = Steady([[[(1, 0)], [(0, 0)]], [[(0, 1)], [(1, 0)]]])
SPLIT = Splits([0], [0, 0], [0, 1], 1)
ODD_PAPERS = STRANGE + [0, (), Steady, Splits, Paper("steady", ()), Denial("splits", (0,), (0, 0), (0, 1), 1), Walked((), 1),
                        ((0,), (0, 0), (0, 1), 1)]


class BelowSteady(Steady):
    pass


class BelowSplits(Splits):
    pass


def some(seed, many, most=6, kinds=2):
    """Best walks of up to so many standings, of few unlike mixes."""
    chance = random.Random(seed)
    for _ in range(many):
        goods = chance.randint(1, 3)
        mixes = [oracle.some_mix(chance, goods) for _ in range(kinds)]
        standings = chance.randint(1, most)
        arrows = {(begin, chance.randrange(standings)) for begin in range(standings)}
        arrows |= {(chance.randrange(standings), chance.randrange(standings)) for _ in range(chance.randint(0, standings))}
        machine = Machine([chance.choice(mixes) for _ in range(standings)], sorted(arrows))
        yield chance, BestWalk(machine, [chance.choice((0, 0, 1, (7, 2))) for _ in range(standings)])


def tunes(promise, days):
    """All unlike tunes, by all walks."""
    if days == 0:
        return {()} if any(promise.weights) else set()
    return {tuple(promise.machine.mixes[at] for at in walk) for walk in oracle.walks(promise.machine, days)
            if promise.weights[walk[0]] != 0}


def is_walk(machine, value):
    return all(arrow in machine.arrows for arrow in zip(value, value[1:]))


def splits_by(promise, way, one, other, day):
    """The conditions, one by one."""
    machine = promise.machine
    if not way or not is_walk(machine, way) or promise.weights[way[0]] == 0:
        return False
    for loop in (one, other):
        if not loop or not is_walk(machine, loop) or loop[0] != way[-1] or (loop[-1], way[-1]) not in machine.arrows:
            return False
    return (len(one) == len(other) and 0 <= day < len(one)
            and machine.mixes[one[day]] != machine.mixes[other[day]])


def steady_by(promise, lots):
    """The conditions, one by one."""
    machine = promise.machine
    phases = {}
    for at, (tune, places) in enumerate(lots):
        for standing, phase in places:
            if standing in phases or machine.mixes[standing] != tune[phase]:
                return False
            phases[standing] = (at, phase)
    if sorted(phases) != list(met(machine, promise.weights)):
        return False
    for begin, end in machine.arrows:
        if begin in phases:
            (at, phase), (other, behind) = phases[begin], phases[end]
            if other < at or other == at and behind != (phase + 1) % len(lots[at][0]):
                return False
    return True


class Judged(Case):
    def check(self, promise):
        judged = judged_growth(promise)
        self.assertIn(type(judged), (Steady, Splits))
        if isinstance(judged, Steady):
            self.assertIs(steady_by(promise, judged.lots), True, (promise.machine.arrows, judged.parts))
            self.assertIs(bool(judged), True)
        else:
            self.assertIs(splits_by(promise, *judged.parts), True, (promise.machine.arrows, judged.parts))
            self.assertIs(bool(judged), False)
        self.assertIs(shows_growth(promise, judged), True)
        self.assertIs(shows_growth(value=type(judged)(*listed(judged.parts)), promise=promise), True)
        self.assertIs(judged_growth(promise=BestWalk(promise.machine, list(promise.weights))) == judged, True)
        return bool(judged)

    def test_by_chance(self):
        for seed, kinds in ((181, 1), (182, 2), (183, 4)):
            found = [self.check(promise) for _, promise in some(seed, 250, 6, kinds)]
            self.assertTrue(any(found))
            self.assertEqual(all(found), kinds == 1)

    def test_by_the_number_of_tunes(self):
        # Steady: at most as many as the lots tell. Split: twice as many, again and again.
        for _, promise in some(184, 150, 4, 2):
            judged = judged_growth(promise)
            for days in (0, 1, 5, 30, 60):
                many = tunes_of(promise, days)
                if judged:
                    self.assertLessEqual(many, steady_most(promise, judged, days))
                else:
                    laps = max(0, days - len(judged.way) + 1) // len(judged.one)
                    self.assertGreaterEqual(many, 2 ** laps)

    def test_all_machines_of_two_standings(self):
        for many in range(1, 5):
            for arrows in itertools.combinations(ALL, many):
                if {begin for begin, _ in arrows} == {0, 1}:
                    for mixes in (PURE, [(1, 0), (1, 0)], [HALF, (0, 1)]):
                        for weights in ((1, 1), (1, 0), (0, 1), (0, 0)):
                            self.check(BestWalk(Machine(mixes, arrows), weights))

    def test_by_hand(self):
        for promise, steady in (
                (BestWalk(CHAIN, (1, 1)), True), (BestWalk(FREE, (1, 1)), False), (BestWalk(TURN, (1, 1)), True),
                (BestWalk(FREE, (0, 0)), True), (BestWalk(Machine([HALF] * 6, list(itertools.product(range(6), repeat=2))), [1] * 6), True), (switching(2, 2), True), (switching(1, 5), True),
                (switching(3, 1), True), (BestWalk(Machine([HALF], [(0, 0)]), [3]), True)):
            self.assertIs(self.check(promise), steady)

    def test_rounds(self):
        # Loops of 2 and of 3 steps: alike if all mixes are, else unlike behind 6.
        arrows = [(0, 1), (1, 0), (1, 2), (2, 0)]
        self.assertIs(self.check(BestWalk(Machine([HALF] * 3, arrows), (1, 0, 0))), True)
        self.assertIs(self.check(BestWalk(Machine([(1, 0), (0, 1), (0, 1)], arrows), (1, 0, 0))), False)
        # Loops of 2 and of 4 steps.
        arrows = [(0, 1), (1, 0), (1, 2), (2, 3), (3, 0)]
        for mixes, steady in ((PURE * 2, True), ([(1, 0), (0, 1), HALF, (0, 1)], False)):
            self.assertIs(self.check(BestWalk(Machine(mixes, arrows), (0, 0, 1, 0))), steady)
        # One round whose tune is said twice, and three times.
        arrows = [(at, (at + 1) % 6) for at in range(6)]
        for mixes, length in ((PURE * 3, 2), ([(1, 0), (0, 1), HALF] * 2, 3), ([HALF] * 6, 1), (PURE * 2 + [HALF] * 2, 6)):
            promise = BestWalk(Machine(mixes, arrows), [0, 1, 0, 0, 0, 0])
            self.assertIs(self.check(promise), True)
            self.same(steady_most(promise, judged_growth(promise), 9), length)

    def test_what_is_not_met_does_not_split(self):
        # Standing 0 leads to itself and to 1 and back, but no walk comes there.
        arrows = [(0, 0), (0, 1), (1, 0), (1, 2), (2, 2)]
        machine = Machine([(1, 0), (0, 1), HALF], arrows)
        self.assertIs(self.check(BestWalk(machine, (0, 0, 5))), True)
        self.assertIs(self.check(BestWalk(machine, (0, 1, 0))), False)
        self.assertIs(self.check(BestWalk(machine, (0, 0, 0))), True)
        self.assertIs(judged_growth(BestWalk(machine, (0, 0, 0))) == Steady(()), True)

    def test_wrong_arguments(self):
        for value in NO_WALKS:
            self.raises(BadPromise("promise"), judged_growth, value)
            for paper in (None, TWO_LOTS, SPLIT):
                self.raises(BadPromise("promise"), shows_growth, value, paper)


class Tunes(Case):
    def test_against_all_walks(self):
        for _, promise in some(185, 150, 4, 2):
            for days in range(6):
                self.same(tunes_of(promise, days), len(tunes(promise, days)))
                self.same(tunes_of(days=days, promise=promise), len(tunes(promise, days)))

    def test_days(self):
        for weights, wanted in (((1, 1), 1), ((0, (1, 2)), 1), ((0, 0), 0)):
            self.same(tunes_of(BestWalk(FREE, weights), 0), wanted)
        self.same(tunes_of(BestWalk(FREE, (1, 1)), 60), 2 ** 60)
        self.same(tunes_of(BestWalk(FREE, (0, 1)), 60), 2 ** 59)
        self.same(tunes_of(BestWalk(FREE, (0, 0)), 60), 0)
        self.same(tunes_of(BestWalk(CHAIN, (1, 1)), 60), 61)
        self.same(tunes_of(BestWalk(TURN, (1, 1)), 60), 2)
        self.same(tunes_of(BestWalk(Machine([HALF] * 2, ALL), (1, 1)), 60), 1)
        six = Machine([(1, 0), (0, 1)] * 2 + [HALF] * 2, list(itertools.product(range(6), repeat=2)))
        self.same(tunes_of(BestWalk(six, [1] * 6), 60), 3 ** 60)

    def test_wrong_arguments(self):
        for value in NO_WALKS:
            for days in (2, -1, None):
                self.raises(BadPromise("promise"), tunes_of, value, days)
        for value in NO_DAYS:
            self.raises(BadNumber("days"), tunes_of, BestWalk(FREE, (1, 1)), value)


class Most(Case):
    def test_against_tunes(self):
        found = 0
        for _, promise in some(186, 200, 5, 2):
            judged = judged_growth(promise)
            if judged:
                lots = judged.lots
                for days in (0, 1, 2, 7, 60):
                    most = steady_most(promise, judged, days)
                    lengths = math.prod(len(tune) for tune, _ in lots)
                    wanted = math.comb(days + len(lots) - 1, len(lots) - 1) * lengths if lots else 0
                    self.same(most, wanted)
                    self.assertLessEqual(tunes_of(promise, days), most)
                    found += most > 1
        self.assertGreater(found, 50)

    def test_other_lots(self):
        promise = BestWalk(CHAIN, (1, 0))
        self.same(steady_most(promise, TWO_LOTS, 4), 5)
        self.same(steady_most(value=TWO_LOTS, days=60, promise=promise), 61)
        # Other lots may tell of more: a tune that is said twice, or of which a part is never come to.
        self.same(steady_most(BestWalk(TURN, (1, 1)), Steady([[PURE, [(0, 0), (1, 1)]]]), 0), 2)
        longer = Machine(PURE * 2, [(0, 1), (1, 2), (2, 3), (3, 0)])
        for tune, phases in ((PURE, (0, 1, 0, 1)), (PURE * 2, (0, 1, 2, 3))):
            lot = Steady([[tune, list(enumerate(phases))]])
            self.same(steady_most(BestWalk(longer, (1, 0, 0, 0)), lot, 60), len(tune))
        self.same(steady_most(BestWalk(FREE, (0, 0)), Steady([]), 60), 0)

    def test_wrong_arguments(self):
        promise = BestWalk(CHAIN, (1, 0))
        for value in NO_WALKS:
            self.raises(BadPromise("promise"), steady_most, value, None, None)
        for value in NO_DAYS:
            for paper in (TWO_LOTS, None):
                self.raises(BadNumber("days"), steady_most, promise, paper, value)
        for value in ODD_PAPERS + [SPLIT, BelowSteady(TWO_LOTS.lots), Steady(TWO_LOTS.lots[::-1]), Steady(())]:
            self.raises(Misfit("value"), steady_most, promise, value, 4)
        self.raises(Misfit("value"), steady_most, BestWalk(FREE, (1, 1)), judged_growth(BestWalk(FREE, (1, 1))), 4)


class Laps(Case):
    def test_factor(self):
        found = 0
        for _, promise in some(187, 250, 5, 3):
            judged = judged_growth(promise)
            if not judged:
                mixes = [promise.machine.mixes[walk[judged.day]] for walk in (judged.one, judged.other)]
                factor = sum(max(fraction(one), fraction(two)) for one, two in zip(*mixes))
                self.assertGreater(factor, 1)
                self.same(lap_factor(promise, judged), told(factor))
                self.same(lap_factor(value=judged, promise=promise), told(factor))
                weight = fraction(promise.weights[judged.way[0]])
                for laps in (0, 1, 2, 60):
                    self.same(lap_floor(promise, judged, laps), told(weight * factor ** laps))
                    self.same(lap_floor(laps=laps, value=judged, promise=promise), told(weight * factor ** laps))
                found += 1
        self.assertGreater(found, 25)

    def test_floor_against_prices(self):
        found = 0
        for _, promise in some(188, 250, 4, 3):
            judged = judged_growth(promise)
            if not judged and promise.goods < 3:
                for laps in range(3):
                    days = len(judged.way) - 1 + laps * len(judged.one)
                    if days <= 8:
                        self.assertLessEqual(fraction(lap_floor(promise, judged, laps)), fraction(price(promise, days)))
                        found += laps
        self.assertGreater(found, 20)
        self.same(price(BestWalk(FREE, ((1, 2), 0)), 6), 16)

    def test_wrong_arguments(self):
        promise = BestWalk(FREE, (1, 1))
        odd = ODD_PAPERS + [TWO_LOTS, BelowSplits(*SPLIT.parts), Splits([0], [0, 0], [0, 1], 0), Splits([0], [0], [0, 1], 0)]
        for value in NO_WALKS:
            self.raises(BadPromise("promise"), lap_factor, value, None)
            self.raises(BadPromise("promise"), lap_floor, value, None, None)
        for value in NO_DAYS:
            for paper in (SPLIT, None):
                self.raises(BadNumber("laps"), lap_floor, promise, paper, value)
        for value in odd:
            self.raises(Misfit("value"), lap_factor, promise, value)
            self.raises(Misfit("value"), lap_floor, promise, value, 3)
        self.raises(Misfit("value"), lap_factor, BestWalk(CHAIN, (1, 0)), judged_growth(BestWalk(CHAIN, (1, 0))))


class Shown(Case):
    def steady(self, promise, lots, wanted=False):
        self.assertIs(shows_growth(promise, Steady(lots)), wanted, lots)
        self.assertIs(shows_growth(promise, Steady(listed(lots))), wanted, lots)

    def split(self, promise, parts, wanted=False):
        self.assertIs(shows_growth(promise, Splits(*parts)), wanted, parts)
        self.assertIs(shows_growth(promise, Splits(*listed(parts))), wanted, parts)

    def test_other_values(self):
        for promise in (BestWalk(CHAIN, (1, 0)), BestWalk(FREE, (1, 1)), BestWalk(FREE, (0, 0))):
            for value in ODD_PAPERS + [BelowSteady(TWO_LOTS.lots), BelowSteady(()), BelowSplits(*SPLIT.parts)]:
                self.assertIs(shows_growth(promise, value), False)

    def test_all_places(self):
        # All phases of all standings in one lot, and in two lots.
        machine = Machine([(1, 0), (0, 1), (0, 1)], [(0, 1), (0, 2), (1, 0), (2, 2)])
        promise = BestWalk(machine, (1, 0, 0))
        for tune in (PURE, PURE[::-1], PURE * 2, [(1, 0)]):
            for phases in itertools.product(range(len(tune)), repeat=3):
                lots = [(tune, list(enumerate(phases)))]
                self.steady(promise, lots, steady_by(promise, lots))
                for phase in range(len(tune)):
                    lots = [(tune, list(enumerate(phases[:2]))), ([(0, 1)], [(2, 0)])]
                    self.steady(promise, lots, steady_by(promise, lots))
                    self.steady(promise, lots[::-1], steady_by(promise, lots[::-1]))

    def test_all_loops(self):
        machine = Machine([(1, 0), (0, 1), (0, 1)], [(0, 1), (0, 2), (1, 0), (2, 2), (2, 0)])
        promise = BestWalk(machine, (1, 0, 0))
        walks = [walk for days in range(4) for walk in itertools.product(range(3), repeat=days)]
        found = 0
        for way in walks[:13]:
            for one, other in itertools.product(walks, repeat=2):
                for day in (0, 1, 2, 3):
                    wanted = splits_by(promise, way, one, other, day)
                    found += wanted
                    self.assertIs(shows_growth(promise, Splits(way, one, other, day)), wanted)
        self.assertGreater(found, 5)

    def test_steady_at_each_condition(self):
        promise = BestWalk(CHAIN, (1, 0))
        one, two = ([(1, 0)], [(0, 0)]), ([(0, 1)], [(1, 0)])
        self.steady(promise, [one, two], True)
        for lots in (
                [two, one], [one], [two], [], [one, two, two], [one, one, two], [([(1, 0)], [(0, 0), (0, 0)]), two],
                [([(1, 0)], [(0, 0), (1, 0)])], [([(0, 1)], [(0, 0)]), two], [one, ([(0, 1)], [(1, 1)])], [one, ([(0, 1)], [(1, -1)])],
                [one, ([(0, 1)], [(2, 0)])], [one, ([(0, 1)], [])], [one, two, ([(0, 1)], [])], [one, ([], [(1, 0)])], [one, two, ([], [])],
                [one, ([(0, 1), (0, 1)], [(1, 0)])], [one, ([HALF], [(1, 0)])], [one, two, ([(0, 1)], [(1, 0)])]):
            self.steady(promise, lots)
        # A standing that is not met has no phase.
        self.steady(BestWalk(CHAIN, (0, 1)), [two], True)
        self.steady(BestWalk(CHAIN, (0, 1)), [one, two])
        self.steady(BestWalk(CHAIN, (0, 0)), [], True)
        self.steady(BestWalk(CHAIN, (0, 0)), [two])
        # A standing without a loop may have any tune in which its mix is.
        machine = Machine([(1, 0), (0, 1)], [(0, 1), (1, 1)])
        self.steady(BestWalk(machine, (1, 0)), [([HALF, (1, 0)], [(0, 1)]), two], True)
        self.steady(BestWalk(machine, (1, 0)), [([HALF, (1, 0)], [(0, 0)]), two])
        # An arrow to the next phase, behind the last one to phase 0; two standings may have one phase.
        both = Machine([(1, 0), (0, 1), (0, 1)], [(0, 1), (0, 2), (1, 0), (2, 0)])
        self.steady(BestWalk(both, (1, 0, 0)), [(PURE, [(0, 0), (1, 1), (2, 1)])], True)
        self.steady(BestWalk(both, (1, 0, 0)), [(PURE[::-1], [(2, 0), (0, 1), (1, 0)])], True)
        self.steady(BestWalk(both, (1, 0, 0)), [(PURE, [(0, 0), (1, 1)])])
        self.steady(BestWalk(both, (1, 0, 0)), [(PURE * 2, [(0, 0), (1, 1), (2, 3)])])

    def test_steady_of_other_kinds(self):
        promise = BestWalk(CHAIN, (0, 1))
        self.steady(promise, [([(0, 1)], [(1, 0)])], True)
        for lots in STRANGE + [
                0, 1, "lots", [0], [None], ["ab"], [()], [([(0, 1)],)], [([(0, 1)], [(1, 0)], 0)], [(None, [(1, 0)])], [([(0, 1)], None)],
                [([(0, 1)], (1, 0))], [([(0, 1)], [(1,)])], [([(0, 1)], [(1, 0, 0)])], [([(0, 1)], [(True, 0)])],
                [([(0, 1)], [(1, False)])], [([(0, 1)], [(1, None)])], [([(0, 1)], [("1", 0)])], [([(0, 1)], [(1.0, 0)])],
                [([(0, True)], [(1, 0)])], [([(False, 1)], [(1, 0)])], [((0, 1), [(1, 0)])], [([(0, 1, 0)], [(1, 0)])], [([(1,)], [(1, 0)])],
                [([None], [(1, 0)])], [("01", [(1, 0)])], [([(0, 1), None], [(1, 0)])], [([(0, 1.0)], [(1, 0)])], ([(0, 1)], [(1, 0)]),
                [([(0, 1)], [((1, 0),)])], [{0: 1, 1: 2}], [([(0, 1)], {(1, 0): True})], [([(0, 1)], [((1, 2), 0)])]]:
            self.assertIs(shows_growth(promise, Steady(lots)), False, lots)
        # What is no mix may not stand at a phase that no standing has, either.
        machine = Machine([(1, 0), (0, 1)], [(0, 1), (1, 1)])
        for mix in (None, 0, (), (1,), (1, 0, 0), (1, 1), (True, 0), ((1, 2), (2, 4))):
            self.steady(BestWalk(machine, (1, 0)), [([mix, (1, 0)], [(0, 1)]), ([(0, 1)], [(1, 0)])])

    def test_split_at_each_condition(self):
        promise = BestWalk(FREE, (0, 3))
        self.split(promise, ([1, 0], [0, 0], [0, 1], 1), True)
        self.split(promise, ([1], [1, 0], [1, 1], 1), True)
        for parts in (
                ([0], [0, 0], [0, 1], 1), ([], [0, 0], [0, 1], 1), ([1, 0], [], [], 0), ([1, 0], [0, 0], [], 0), ([1, 0], [0], [0, 1], 0),
                ([1, 0], [0], [0, 1], 1), ([1, 0], [1, 0], [1, 1], 1), ([1, 0], [0, 0], [1, 0], 0), ([1, 0], [0, 0], [0, 1], 2),
                ([1, 0], [0, 0], [0, 1], -1), ([1, 0], [0, 0], [0, 1], 0), ([1, 0], [0, 1], [0, 1], 1), ([1, 2], [0, 0], [0, 1], 1),
                ([1, 0], [0, 2], [0, 1], 1), ([1, 0], [0, -1], [0, 0], 1), ([1, 0], [0, 0, 0], [0, 1], 1)):
            self.split(promise, parts)
        # Walks that are none, loops that do not close.
        machine = Machine([(1, 0), (0, 1), HALF], [(0, 1), (0, 2), (1, 0), (2, 0), (2, 2)])
        promise = BestWalk(machine, (1, 0, 0))
        self.split(promise, ([0], [0, 1], [0, 2], 1), True)
        for parts in (([0], [0, 1], [0, 0], 1), ([0, 0], [0, 1], [0, 2], 1), ([2], [2, 2], [2, 0], 1), ([0, 2], [2, 2], [2, 0], 0),
                      ([0], [0, 1, 0], [0, 2, 0], 1), ([0], [0, 1, 0], [0, 2, 2], 1), ([1, 0], [0, 1], [0, 2], 1)):
            self.split(promise, parts)
        self.split(promise, ([0, 2], [2, 0], [2, 2], 1), True)
        # Of unlike standings with one mix.
        machine = Machine([HALF] * 2, ALL)
        self.split(BestWalk(machine, (1, 1)), ([0], [0, 0], [0, 1], 1))

    def test_split_of_other_kinds(self):
        promise = BestWalk(FREE, (3, 0))
        right = [[0], [0, 0], [0, 1], 1]
        self.split(promise, right, True)
        for at in range(3):
            for value in STRANGE + [0, 1, "0", (None,), (False,), (0, True), (0.0, 1), ("0",), ((0,), (1,)), ((0, 0), 1), {0: 1}, (0, (1, 2))]:
                self.assertIs(shows_growth(promise, Splits(*right[:at], value, *right[at + 1:])), False, (at, value))
        for value in NO_NUMBERS + [(1, 2), 2, -1, 10 ** 40]:
            self.assertIs(shows_growth(promise, Splits(*right[:3], value)), False, value)
        self.assertIs(shows_growth(promise, Splits([False], [0, 0], [0, 1], 1)), False)

    def test_papers(self):
        paper = Steady(lots=[[[(0, 1)], [[1, 0]]]])
        self.same((paper.word, paper.parts, paper.lots, bool(paper)),
                  ("steady", (((((0, 1),), ((1, 0),)),),), ((((0, 1),), ((1, 0),)),), True))
        self.assertNotIsInstance(paper, Denial)
        paper = Splits(day=1, way=[0], other=[0, 1], one=(0, 0))
        self.same((paper.word, paper.parts, paper.way, paper.one, paper.other, paper.day, bool(paper)),
                  ("splits", ((0,), (0, 0), (0, 1), 1), (0,), (0, 0), (0, 1), 1, False))
        self.assertIsInstance(paper, Denial)
        self.assertIs(paper == SPLIT, True)
        self.assertIs(paper == Splits((0,), (0, 0), (0, 1), 0), False)


if __name__ == "__main__":
    unittest.main()
