"""hindprice.promises."""

import unittest

from hindprice.errors import BadMachine, BadMix, BadNumber, BadPromise, TooMany
from hindprice.machines import Machine
from hindprice.promises import (
    BestMix, BestWalk, Greatest, Hold, Mix, Promise, Sum, Then, Times, all_in, parts_of)
from tests.support import NO_NUMBERS, STRANGE, Case, listed

HALF = ((1, 2), (1, 2))
MACHINE = Machine([(1, 0), HALF], [(0, 1), (1, 1)])
ONE, TWO, WISE = Hold(2, 0), Hold(2, 1), BestMix(2, (0, 3))
WALK, EVEN = BestWalk(MACHINE, (1, (7, 2))), Mix(HALF)
FAR = Hold(3, 0)
NO_GOODS = NO_NUMBERS + [0, 6, -1, (1, 2), 10 ** 40]
NO_PROMISES = STRANGE + [0, 1, (), [], (1,), [ONE], (ONE, TWO), MACHINE, Hold, Promise, "hold 2 0", {"x": ONE}]
BELOW = [-1, (-1, 2), [-7, 2], -(10 ** 40)]


def each_kind():
    """One of each kind by place and by name, and its parameters."""
    return [
        (Hold, {"goods": 2, "good": 1}), (Mix, {"shares": HALF}), (Times, {"number": (3, 2), "part": ONE}),
        (Sum, {"parts": (ONE, WISE)}), (Greatest, {"parts": (ONE, WISE)}), (Then, {"days": 3, "first": ONE, "last": WALK}),
        (BestWalk, {"machine": MACHINE, "weights": (0, (1, 2))}), (BestMix, {"goods": 2, "counts": (4, 0)})]


def deep(levels):
    """A promise of so many levels."""
    promise = ONE
    for _ in range(levels - 1):
        promise = Times(1, promise)
    return promise


def wide(many):
    """A promise with so many promises in it, of three levels at most, many being from 2 on."""
    parts, left = [], many - 1
    while left > 0:
        taken = min(left, 7)
        parts.append(ONE if taken == 1 else Sum([ONE] * (taken - 1)))
        left -= taken
    return Greatest(parts)


class Kinds(Case):
    def test_by_place_by_name_and_in_lists(self):
        for kind, told in each_kind():
            named, placed = kind(**told), kind(*told.values())
            turned = kind(**dict(reversed(told.items())))
            lists = kind(**{name: listed(value) for name, value in told.items()})
            for promise in (named, placed, turned, lists):
                self.assertIsInstance(promise, Promise)
                self.assertIs(promise == named, True)
                self.assertIs(promise != named, False)
                for name, value in told.items():
                    self.assertEqual(getattr(promise, name), value)
                    self.assertIs(type(getattr(promise, name)), type(value))
                self.same(promise.goods, 2)

    def test_levels_and_many(self):
        for kind, told in each_kind():
            promise = kind(**told)
            parts = parts_of(promise)
            self.same(promise.levels, 1 + max([part.levels for part in parts], default=0))
            self.same(promise.many, len(all_in(promise)))
        deeper = Then(0, Sum([WISE, Times(2, Greatest([ONE, TWO, ONE]))]), Times(1, EVEN))
        self.same((deeper.levels, deeper.many), (5, 10))
        self.same((ONE.levels, ONE.many, EVEN.levels, EVEN.many, WALK.levels, WALK.many), (1,) * 6)
        self.same((wide(40).levels, wide(40).many, deep(6).levels, deep(6).many), (3, 40, 6, 6))

    def test_each_number_of_goods(self):
        for goods in range(1, 6):
            mix = (0,) * (goods - 1) + (1,)
            machine = Machine([mix], [(0, 0)])
            made = [Hold(goods, 0), Hold(goods, goods - 1), Mix(mix), BestMix(goods, [0] * goods), BestWalk(machine, [3])]
            made += [Times(0, made[0]), Sum(made), Greatest(made[:1]), Then(0, made[2], made[3])]
            self.assertEqual([promise.goods for promise in made], [goods] * 9)

    def test_bounds(self):
        self.same((Then(0, ONE, TWO).days, Then(1000, ONE, TWO).days), (0, 1000))
        self.same(BestMix(2, [1000, 0]).counts, (1000, 0))
        self.same(BestWalk(MACHINE, [0, 0]).weights, (0, 0))
        self.same((Times(0, ONE).number, Times([1, 7], ONE).number), (0, (1, 7)))
        self.same((len(Sum([ONE] * 6).parts), len(Greatest((ONE,)).parts)), (6, 1))


class Equality(Case):
    def test_by_kind_and_parameters(self):
        other = Machine([(1, 0), HALF], [(0, 0), (1, 1)])
        promises = [
            Hold(2, 0), Hold(2, 1), Hold(3, 0), Mix((1, 0)), Mix(HALF), Mix((1,)), Times(1, ONE), Times(2, ONE),
            Times(1, TWO), Sum([ONE]), Greatest([ONE]), Sum([ONE, TWO]), Sum([TWO, ONE]), Greatest([ONE, TWO]),
            Sum([ONE, ONE]), Then(0, ONE, TWO), Then(1, ONE, TWO), Then(0, TWO, ONE), Then(0, ONE, ONE),
            BestWalk(MACHINE, (0, 1)), BestWalk(MACHINE, (1, 0)), BestWalk(other, (0, 1)), BestMix(2, (0, 0)),
            BestMix(2, (0, 1)), BestMix(1, (0,)), Times(1, Sum([ONE, WISE])), Times(1, Sum([ONE, WALK]))]
        for at, one in enumerate(promises):
            for place, another in enumerate(promises):
                self.assertIs(one == another, at == place, (at, place))
                self.assertIs(one != another, at != place, (at, place))
            for value in STRANGE + [0, 1, (2, 0), MACHINE, "hold 2 0"]:
                self.assertIs(one == value, False)

    def test_what_was_passed_may_be_changed_later(self):
        shares, parts, weights, counts, number = [[1, 2], [1, 2]], [ONE, TWO], [[1, 2], 3], [4, 5], [1, 2]
        made = [Mix(shares), Sum(parts), Greatest(parts), BestWalk(MACHINE, weights), BestMix(2, counts), Times(number, ONE)]
        self.same([shares, weights, counts, number], [[[1, 2], [1, 2]], [[1, 2], 3], [4, 5], [1, 2]])
        shares[0][1] = 9
        shares.pop()
        parts.append(FAR)
        parts[0] = TWO
        weights[0][0] = counts[0] = number[0] = 9
        wanted = [Mix(HALF), Sum((ONE, TWO)), Greatest((ONE, TWO)), BestWalk(MACHINE, ((1, 2), 3)), BestMix(2, (4, 5)),
                  Times((1, 2), ONE)]
        for one, other in zip(made, wanted):
            self.assertIs(one == other, True)
        self.same([made[0].shares, made[3].weights, made[4].counts, made[5].number], [HALF, ((1, 2), 3), (4, 5), (1, 2)])
        self.same([len(made[1].parts), made[1].many], [2, 3])


class WrongParameters(Case):
    def test_hold(self):
        for wrong in NO_GOODS:
            for good in (0, None, 9):
                self.raises(BadNumber("goods"), Hold, wrong, good)
        for wrong in NO_NUMBERS + [-1, 2, (1, 2), 10 ** 40]:
            self.raises(BadNumber("good"), Hold, 2, wrong)
            self.raises(BadNumber("good"), Hold, good=wrong, goods=2)

    def test_mix(self):
        for wrong in STRANGE + [0, 1, (), [], (0,), (1, 1), (2, -1), ((1, 2), (1, 3)), (1, 0, 0, 0, 0, 0), ((2, 4), (1, 2)),
                                (True, 0), (1, None), EVEN, ((1, 2), (1, 2), 0, 1)]:
            self.raises(BadMix("shares"), Mix, wrong)

    def test_times(self):
        for wrong in NO_NUMBERS + BELOW:
            for part in (ONE, None, 7):
                self.raises(BadNumber("number"), Times, wrong, part)
        for wrong in NO_PROMISES:
            self.raises(BadPromise("part"), Times, 1, wrong)
            self.raises(BadPromise("part"), Times, part=wrong, number=0)

    def test_sums_and_greatest_ones(self):
        for kind in (Sum, Greatest):
            for wrong in STRANGE + [0, (), [], ONE, [ONE] * 7, (ONE, FAR), [FAR, ONE], [ONE, TWO, FAR], (WALK, Mix((1,)))]:
                self.raises(BadPromise("parts"), kind, wrong)
            for wrong in NO_PROMISES:
                for parts in ([wrong], (wrong, ONE), [ONE, TWO, wrong]):
                    self.raises(BadPromise("parts"), kind, parts)

    def test_then(self):
        for wrong in NO_NUMBERS + [-1, 1001, (1, 2), 10 ** 40]:
            for part in (ONE, None):
                self.raises(BadNumber("days"), Then, wrong, part, FAR)
        for wrong in NO_PROMISES:
            self.raises(BadPromise("first"), Then, 1, wrong, ONE)
            self.raises(BadPromise("first"), Then, 1, wrong, None)
            self.raises(BadPromise("last"), Then, 1, ONE, wrong)
        self.raises(BadPromise("last"), Then, 1, ONE, FAR)
        self.raises(BadPromise("last"), Then, last=ONE, first=FAR, days=0)

    def test_walk(self):
        for wrong in STRANGE + [0, (), ONE, Machine, str(MACHINE), (MACHINE.mixes, MACHINE.arrows)]:
            for weights in ((1, 1), None, ()):
                self.raises(BadMachine("machine"), BestWalk, wrong, weights)
        for wrong in STRANGE + [0, 1, (), [], (1,), [1, 1, 1], HALF[0]]:
            if wrong != (1, 2):
                self.raises(BadNumber("weights"), BestWalk, MACHINE, wrong)
        for wrong in NO_NUMBERS + BELOW:
            self.raises(BadNumber("weights"), BestWalk, MACHINE, [wrong, 1])
            self.raises(BadNumber("weights"), BestWalk, MACHINE, (0, wrong))

    def test_best_mix(self):
        for wrong in NO_GOODS:
            for counts in ((0, 0), None):
                self.raises(BadNumber("goods"), BestMix, wrong, counts)
        for wrong in STRANGE + [0, 1, (), [], (1,), (1, 1, 1)]:
            self.raises(BadNumber("counts"), BestMix, 2, wrong)
        for wrong in NO_NUMBERS + [-1, 1001, (1, 2), 10 ** 40]:
            self.raises(BadNumber("counts"), BestMix, 2, [wrong, 0])
            self.raises(BadNumber("counts"), BestMix, counts=(0, wrong), goods=2)

    def test_what_is_made_from_the_base_alone_is_no_promise(self):
        class Fake(Promise):
            goods, levels, many = 2, 1, 1

        for wrong in (Promise(), Fake()):
            self.raises(BadPromise("part"), Times, 1, wrong)
            self.raises(BadPromise("parts"), Sum, [ONE, wrong])
            self.raises(BadPromise("promise"), all_in, wrong)


class Sizes(Case):
    def test_six_levels_are_let(self):
        made = [Times(1, deep(5)), Sum([ONE, deep(5)]), Greatest([deep(5)]), Then(1, deep(5), ONE), Then(1, ONE, deep(5))]
        self.assertEqual([promise.levels for promise in made], [6] * 5)

    def test_seven_levels_are_not(self):
        for kind, told in ((Times, (1, deep(6))), (Sum, ([ONE, deep(6)],)), (Greatest, ([deep(6)],)),
                           (Then, (1, deep(6), ONE)), (Then, (1, ONE, deep(6)))):
            self.raises(TooMany("levels", 6), kind, *told)

    def test_forty_promises_are_let(self):
        made = [Times(1, wide(39)), Sum([wide(38), ONE]), Greatest([wide(20), wide(19)]), Then(1, wide(38), ONE),
                Then(1, wide(19), wide(20))]
        self.assertEqual([promise.many for promise in made], [40] * 5)

    def test_forty_one_are_not(self):
        for kind, told in ((Times, (1, wide(40))), (Sum, ([wide(39), ONE],)), (Greatest, ([wide(20), wide(20)],)),
                           (Then, (1, wide(39), ONE)), (Then, (1, ONE, wide(39))), (Sum, ([wide(40)] * 6,))):
            self.raises(TooMany("promises", 40), kind, *told)

    def test_levels_ahead_of_promises(self):
        great = Then(0, deep(6 - 1), wide(34))
        self.same((great.levels, great.many), (6, 40))
        self.raises(TooMany("levels", 6), Times, 1, great)
        self.raises(TooMany("levels", 6), Sum, [great, great])
        self.raises(TooMany("levels", 6), Then, 0, great, wide(40))

    def test_parameters_ahead_of_sizes(self):
        great = Then(0, deep(5), wide(34))
        self.raises(BadNumber("number"), Times, -1, great)
        self.raises(BadPromise("parts"), Sum, [great, FAR])
        self.raises(BadPromise("parts"), Greatest, [great] * 7)
        self.raises(BadNumber("days"), Then, 1001, great, great)
        self.raises(BadPromise("last"), Then, 1, great, None)
        self.raises(BadPromise("last"), Then, 1, great, FAR)


class Insides(Case):
    def test_parts_of(self):
        self.same([parts_of(promise) for promise in (ONE, EVEN, WISE, WALK)], [(), (), (), ()])
        self.assertEqual(parts_of(Times(2, WALK)), (WALK,))
        self.assertEqual(parts_of(Sum([TWO, ONE, TWO])), (TWO, ONE, TWO))
        self.assertEqual(parts_of(Greatest([WISE, ONE])), (WISE, ONE))
        self.assertEqual(parts_of(promise=Then(3, TWO, EVEN)), (TWO, EVEN))
        self.assertIs(type(parts_of(Sum([ONE]))), tuple)

    def test_all_in(self):
        self.assertEqual(all_in(ONE), (ONE,))
        inner, last = Sum([TWO, EVEN, TWO]), Greatest([WALK, Times(2, WISE)])
        whole = Then(1, Times(1, inner), last)
        wanted = (whole, whole.first, inner, TWO, EVEN, TWO, last, WALK, Times(2, WISE), WISE)
        self.assertEqual(all_in(whole), wanted)
        self.assertEqual(all_in(promise=whole), wanted)
        self.assertIs(type(all_in(whole)), tuple)
        self.assertEqual(len(all_in(wide(40))), 40)

    def test_wrong_promises(self):
        for wrong in NO_PROMISES:
            self.raises(BadPromise("promise"), parts_of, wrong)
            self.raises(BadPromise("promise"), all_in, wrong)


if __name__ == "__main__":
    unittest.main()
