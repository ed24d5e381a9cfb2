"""hindprice.machines, but for texts."""

import itertools
import unittest

from hindprice.errors import BadMachine, BadNumber
from hindprice.machines import Machine
from tests.support import NO_NUMBERS, STRANGE, Case, listed

PURE = [(1, 0), (0, 1)]
HALF = ((1, 2), (1, 2))
NO_MIXES = STRANGE + [0, 1, (), [], (1, 1), (0, 0), (2, -1), ((2, 4), (1, 2)), (True, 0), (1, False), (1, None),
                      ((1, 2), (1, 3)), (0,), (1, 0, 0, 0, 0, 0), (1.0, 0), ("1", 0)]


class Right(Case):
    def test_attributes(self):
        machine = Machine([[0, [1, 2], [1, 2]], (1, 0, 0)], [[1, 1], (0, 1), [1, 0]])
        self.same((machine.goods, machine.many), (3, 2))
        self.same(machine.mixes, ((0, (1, 2), (1, 2)), (1, 0, 0)))
        self.same(machine.arrows, ((0, 1), (1, 0), (1, 1)))

    def test_all_sizes(self):
        for goods in range(1, 6):
            for many in range(1, 7):
                mixes = [(0,) * (goods - 1) + (1,)] * many
                arrows = list(itertools.product(range(many), repeat=2))
                machine = Machine(mixes, arrows)
                self.same((machine.goods, machine.many, machine.arrows), (goods, many, tuple(arrows)))
                ring = Machine(arrows=[(at, (at + 1) % many) for at in range(many)], mixes=tuple(mixes))
                self.same([ring.nexts(at) for at in range(many)], [((at + 1) % many,) for at in range(many)])

    def test_order_of_arrows_and_lists_for_tuples(self):
        arrows = [(0, 0), (0, 1), (1, 1)]
        wanted = Machine(PURE, arrows)
        for given in itertools.permutations(arrows):
            for mixes in (PURE, tuple(PURE), listed(PURE)):
                for kind in (list, tuple, listed):
                    machine = Machine(mixes, kind(given))
                    self.assertIs(machine == wanted, True)
                    self.same(machine.arrows, tuple(arrows))

    def test_nexts(self):
        machine = Machine([(1,)] * 3, [(2, 0), (0, 2), (0, 0), (1, 1), (2, 2), (2, 1)])
        self.same([machine.nexts(at) for at in range(3)], [(0, 2), (1,), (0, 1, 2)])
        self.same(machine.nexts(standing=1), (1,))
        for wrong in NO_NUMBERS + [-1, 3, (1, 2), 10 ** 40]:
            self.raises(BadNumber("standing"), machine.nexts, wrong)

    def test_equality(self):
        machines = [Machine(PURE, [(0, 0), (1, 1)]), Machine(PURE, [(0, 1), (1, 1)]), Machine(PURE[::-1], [(0, 0), (1, 1)]),
                    Machine([HALF, (0, 1)], [(0, 0), (1, 1)]), Machine([(1,)], [(0, 0)]), Machine([(1, 0)], [(0, 0)]),
                    Machine(PURE, [(0, 0), (0, 1), (1, 1)]), Machine([(1,), (1,)], [(0, 0), (1, 1)])]
        for at, one in enumerate(machines):
            for place, other in enumerate(machines):
                self.assertIs(one == other, at == place)
                self.assertIs(one != other, at != place)
            self.assertIs(one == Machine(one.mixes, one.arrows), True)
            for value in STRANGE + [str(one), (one.mixes, one.arrows), one.mixes]:
                self.assertIs(one == value, False)

    def test_what_was_passed_may_be_changed_later(self):
        mixes, arrows = [[1, 0], [[1, 2], [1, 2]]], [[1, 0], [0, 1]]
        machine = Machine(mixes, arrows)
        self.same([mixes, arrows], [[[1, 0], [[1, 2], [1, 2]]], [[1, 0], [0, 1]]])
        mixes[0][0], mixes[1][1][0], arrows[0][1] = 7, 7, 7
        mixes.append((0, 1))
        arrows.clear()
        self.same((machine.mixes, machine.arrows), (((1, 0), HALF), ((0, 1), (1, 0))))
        self.same(str(machine), "2 2 1 0 1/2 1/2 2 0 1 1 0")


class Wrong(Case):
    def test_mixes(self):
        for wrong in STRANGE + [0, 1, (), [], [(1,)] * 7, [(1, 0), (1,)], [(1,), (1, 0)], [(1, 0), (1, 0, 0)], (1, 0)]:
            self.raises(BadMachine("mixes"), Machine, wrong, [(0, 0)])
        for wrong in NO_MIXES:
            for mixes in ([wrong], (wrong, (1, 0)), [(1, 0), (0, 1), wrong]):
                self.raises(BadMachine("mixes"), Machine, mixes, [(0, 0), (1, 1)])

    def test_mixes_ahead_of_arrows(self):
        for arrows in (None, [], [(0, 5)], 7):
            self.raises(BadMachine("mixes"), Machine, [(1, 1)], arrows)
            self.raises(BadMachine("mixes"), Machine, arrows=arrows, mixes=None)
            self.raises(BadMachine("arrows"), Machine, [(1, 0)], arrows)

    def test_arrows(self):
        for wrong in STRANGE + [0, 1, (), [], (0, 0), [0, 0], "00"]:
            self.raises(BadMachine("arrows"), Machine, [(1,)], wrong)
        for wrong in STRANGE + [0, (), (0,), (0, 0, 0), (0, 2), (2, 0), (-1, 0), (0, -1), (True, 0), (0, False), ((1, 2), 0),
                                (0, None), ("0", 0), [[0, 0]], "01", {0: 1}, {0, 1}]:
            for arrows in ([wrong, (0, 0), (1, 1)], ((0, 0), (1, 1), wrong)):
                self.raises(BadMachine("arrows"), Machine, PURE, arrows)

    def test_arrows_twice(self):
        for arrows in ([(0, 0), (1, 1), (0, 0)], [(0, 0), [0, 0], (1, 1)], ((0, 0), (1, 1), [1, 1])):
            self.raises(BadMachine("arrows"), Machine, PURE, arrows)

    def test_a_standing_without_an_arrow(self):
        for many in range(2, 7):
            arrows = list(itertools.product(range(many), repeat=2))
            for lost in range(many):
                left = [arrow for arrow in arrows if arrow[0] != lost]
                self.raises(BadMachine("arrows"), Machine, [(1,)] * many, left)
                Machine([(1,)] * many, left + [(lost, 0)])


if __name__ == "__main__":
    unittest.main()
