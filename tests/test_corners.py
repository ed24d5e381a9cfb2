"""hindprice.corners."""

import itertools
import random
import unittest
from fractions import Fraction

from hindprice.corners import Corner, is_between, lines_at
from hindprice.errors import BadCorner, BadDay, Misfit
from tests import oracle
from tests.support import STRANGE, Case, fraction, listed, told

PAIR_ROWS = [(1, (1, 2)), [1, 2]]
PAIR = Corner(PAIR_ROWS)
NO_CORNERS = STRANGE + [0, (), [], PAIR_ROWS, Corner, "corner", [PAIR]]
NO_ROWS = STRANGE + [0, 1, (), [], [()], [(1, 2)], [(1,), (1,)], [(1, 2, 3), (1, 2, 3)], [(1, 2), (1,)], [(1, 0), (0, -1)],
                     [(1, True), (0, 1)], [(1, 0), (False, 1)], [(1, (2, 4)), (1, 1)], [(1, 0), None], [(1, 0), "01"], [1, 2], "12",
                     [[(2, 4)]], [(-1,)], [(1, 0), (0, 1), (1, 1)], [[1 if a == b else 0 for a in range(6)] for b in range(6)],
                     [(1.0, 0), (0, 1)], {0: (1,)}]
NO_DAYS = STRANGE + [0, 1, (), (1,), [1, 2, 3], (1, -1), (1, True), (1, (2, 4)), (1, None), "12", [(1, 2)], (1, (1, 2, 3))]


def solved(rows, day):
    """The parts of a day, by taking rows away from one another; None if the rows depend on one another."""
    many = len(rows)
    left = [[fraction(rows[row][good]) for row in range(many)] + [fraction(day[good])] for good in range(many)]
    for at in range(many):
        place = next((place for place in range(at, many) if left[place][at] != 0), None)
        if place is None:
            return None
        left[at], left[place] = left[place], left[at]
        left[at] = [number / left[at][at] for number in left[at]]
        for other in range(many):
            if other != at:
                left[other] = [one - left[other][at] * two for one, two in zip(left[other], left[at])]
    return [row[-1] for row in left]


def is_corner(rows):
    weights = solved(rows, [1] * len(rows))
    return weights is not None and min(weights) > 0


def some_rows(chance, goods):
    return [oracle.some_day(chance, goods) for _ in range(goods)]


def some_corner(chance, goods):
    """The rows of some corner."""
    while True:
        rows = some_rows(chance, goods)
        if is_corner(rows):
            return rows


class Made(Case):
    def test_against_parts_by_hand(self):
        chance = random.Random(191)
        made = refused = 0
        for _ in range(1500):
            rows = some_rows(chance, chance.randint(1, 4))
            goods = len(rows)
            if not is_corner(rows):
                self.raises(Misfit("rows"), Corner, rows)
                self.raises(Misfit("rows"), Corner, rows=listed(rows))
                refused += 1
                continue
            made += 1
            corner = Corner(rows)
            self.check(corner, rows, goods)
            self.assertIs(corner == Corner(rows=listed(rows)), True)
        self.assertGreater(made, 100)
        self.assertGreater(refused, 100)

    def check(self, corner, rows, goods):
        self.same(corner.goods, goods)
        self.same(corner.rows, tuple(tuple(row) for row in rows))
        self.same(corner.weights, tuple(told(number) for number in solved(rows, [1] * goods)))
        units = [solved(rows, [int(at == good) for at in range(goods)]) for good in range(goods)]
        self.same(corner.lines, tuple(tuple(told(units[good][row]) for good in range(goods)) for row in range(goods)))

    def test_five_goods(self):
        chance = random.Random(192)
        for _ in range(30):
            rows = [oracle.some_day(chance, 5) for _ in range(5)]
            for at in range(5):
                rows[at] = (*rows[at][:at], told(fraction(rows[at][at]) + 9), *rows[at][at + 1:])
            if is_corner(rows):
                self.check(Corner(rows), rows, 5)
        great = 10 ** 40 - 1
        rows = [[(great - 7 * (5 * row + good), great - 5) if row != good else (great, great - 3 - 2 * row) for good in range(5)]
                for row in range(5)]
        rows = [[told(Fraction(*number)) for number in row] for row in rows]
        if is_corner(rows):
            self.check(Corner(rows), rows, 5)
        for order in itertools.permutations(range(5)):
            rows = [[int(at == good) * (at + 2) for at in range(5)] for good in order]
            self.check(Corner(rows), rows, 5)

    def test_rows_that_depend_on_one_another(self):
        for rows in ([(0,)], [(1, 2), (2, 4)], [(0, 0), (1, 1)], [(1, 1), (1, 1)], [(1, 2, 3), (1, 0, 1), (2, 2, 4)],
                     [((1, 2), (1, 3)), (3, 2)], [(1, 0, 0), (0, 1, 0), (1, 1, 0)]):
            self.raises(Misfit("rows"), Corner, rows)

    def test_weights_of_0_or_below(self):
        for rows in ([(1, 1), (0, 1)], [(1, 1), (1, 2)], [(1, 2), (1, 3)], [(1, 0, 0), (0, 1, 0), (1, 1, 1)], [(2, 1), (3, 1)]):
            self.assertIsNotNone(solved(rows, [1] * len(rows)))
            self.raises(Misfit("rows"), Corner, rows)
            self.raises(Misfit("rows"), Corner, rows[::-1])

    def test_just_above_0(self):
        great = 10 ** 40
        corner = Corner([(0, 1), (1, (great - 1, great))])
        self.same(corner.weights, ((1, great), 1))
        self.raises(Misfit("rows"), Corner, [(0, 1), (1, 1)])
        self.raises(Misfit("rows"), Corner, [(0, 1), (1, (great + 1, great))])

    def test_one_good(self):
        self.same((Corner([[2]]).weights, Corner([[2]]).lines, Corner([((1, 3),)]).weights), (((1, 2),), (((1, 2),),), (3,)))
        self.raises(Misfit("rows"), Corner, [[0]])

    def test_what_is_changed_later(self):
        rows = [[1, [1, 2]], [1, 2]]
        corner = Corner(rows)
        rows[0][1][0] = 3
        rows[0][0] = 9
        rows.append([1, 1])
        self.same(corner.rows, ((1, (1, 2)), (1, 2)))
        self.assertIs(corner == PAIR, True)

    def test_equality(self):
        self.assertIs(PAIR == Corner([[1, [1, 2]], (1, 2)]), True)
        self.assertIs(PAIR == Corner([[1, 2], [1, (1, 2)]]), False)
        self.assertIs(PAIR != Corner(PAIR_ROWS), False)
        for value in (None, PAIR.rows, 1, "corner"):
            self.assertIs(PAIR == value, False)

    def test_wrong_arguments(self):
        for value in NO_ROWS:
            self.raises(BadCorner("rows"), Corner, value)
            self.raises(BadCorner("rows"), Corner, rows=value)


class Days(Case):
    def test_parts(self):
        chance = random.Random(193)
        inside = 0
        for _ in range(200):
            rows = some_corner(chance, chance.randint(1, 3))
            goods = len(rows)
            corner = Corner(rows)
            for day in [oracle.some_day(chance, goods) for _ in range(5)] + rows + [(0,) * goods, (1,) * goods]:
                parts = solved(rows, day)
                self.same(lines_at(corner, day), tuple(told(part) for part in parts))
                self.same(lines_at(day=listed(day), corner=corner), tuple(told(part) for part in parts))
                self.assertIs(is_between(corner, day), min(parts) >= 0)
                self.assertIs(is_between(day=listed(day), corner=corner), min(parts) >= 0)
                inside += min(parts) >= 0
                for good in range(goods):
                    self.assertEqual(sum(part * fraction(row[good]) for part, row in zip(parts, rows)), fraction(day[good]))
        self.assertGreater(inside, 500)

    def test_days_that_are_made_of_the_rows(self):
        chance = random.Random(194)
        for _ in range(100):
            goods = chance.randint(1, 4)
            rows = some_corner(chance, min(goods, 3))
            parts = [oracle.some_number(chance) for _ in rows]
            day = [told(sum(fraction(part) * fraction(row[good]) for part, row in zip(parts, rows))) for good in range(len(rows))]
            self.same(lines_at(Corner(rows), day), tuple(parts))
            self.assertIs(is_between(Corner(rows), day), True)

    def test_no_days(self):
        for value in NO_DAYS:
            self.assertIs(is_between(PAIR, value), False)
            self.raises(BadDay("day"), lines_at, PAIR, value)
        self.assertIs(is_between(PAIR, (1, (1, 2))), True)
        self.assertIs(is_between(PAIR, (10 ** 40, 5 * 10 ** 39)), True)
        self.assertIs(is_between(PAIR, (10 ** 40, 5 * 10 ** 39 - 1)), False)

    def test_wrong_arguments(self):
        for value in NO_CORNERS:
            for day in ((1, 1), None):
                self.raises(BadCorner("corner"), lines_at, value, day)
                self.raises(BadCorner("corner"), is_between, value, day)


if __name__ == "__main__":
    unittest.main()
