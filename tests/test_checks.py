"""hindprice.checks."""

import unittest
from fractions import Fraction

from hindprice.checks import is_integer, is_number, is_row, is_within
from tests.support import NO_NUMBERS, STRANGE, Case

GREAT = 10 ** 200
PAIRS = [(1, 2), [1, 2], (-1, 2), (7, 2), [-7, 2], (2, 3), (1, GREAT), (GREAT + 1, GREAT), (-GREAT - 1, GREAT)]


class Checks(Case):
    def test_integers(self):
        for value in (0, 1, -1, 7, GREAT, -GREAT):
            self.assertIs(is_integer(value), True)
            self.assertIs(is_number(value), True)
        for value in STRANGE + PAIRS + [[], ()]:
            self.assertIs(is_integer(value), False, repr(value))
        self.assertIs(is_integer(value=3), True)

    def test_within(self):
        for least in (-2, 0, 2, None, GREAT):
            for most in (-2, 0, 2, None, GREAT):
                for value in (-GREAT, -3, -2, -1, 0, 1, 2, 3, GREAT - 1, GREAT, GREAT + 1):
                    wanted = (least is None or least <= value) and (most is None or value <= most)
                    self.assertIs(is_within(value, least, most), wanted)
        self.assertIs(is_within(value=1, least=0, most=1), True)

    def test_within_of_what_is_no_integer(self):
        for value in STRANGE + PAIRS:
            for least, most in ((None, None), (0, 5), (0, None), (None, 5)):
                self.assertIs(is_within(value, least, most), False, repr(value))

    def test_pairs(self):
        for value in PAIRS:
            self.assertIs(is_number(value), True, repr(value))
        self.assertIs(is_number(value=(1, 2)), True)

    def test_what_is_no_number(self):
        for value in NO_NUMBERS + [(GREAT, GREAT), (2 * GREAT, GREAT), (GREAT, 1), (1, -GREAT), (GREAT, 6)]:
            self.assertIs(is_number(value), False, repr(value))

    def test_one_form_alone(self):
        for top in range(-12, 13):
            for bottom in range(-12, 13):
                form = Fraction(top, bottom) if bottom != 0 else None
                wanted = bottom > 1 and (form.numerator, form.denominator) == (top, bottom)
                self.assertIs(is_number((top, bottom)), wanted, (top, bottom))
                self.assertIs(is_number([top, bottom]), wanted, (top, bottom))

    def test_rows(self):
        rows = [(), [], [0], (0,), (1, 2), [[1, 2], (1, 2)], ((7, 3), 0, GREAT), [0] * 9]
        for row in rows:
            for many in range(-1, 11):
                self.assertIs(is_row(row, many), len(row) == many, (row, many))
        self.assertIs(is_row(value=(1, (1, 2)), many=2), True)

    def test_rows_with_a_wrong_number(self):
        for wrong in NO_NUMBERS + [-1, (-1, 2), [-1, 2], -GREAT]:
            for row in ((wrong,), [wrong, 0], (0, wrong), [1, wrong, (1, 2)]):
                self.assertIs(is_row(row, len(row)), False, repr(row))

    def test_what_is_no_row(self):
        for value in STRANGE + [0, 1, 2, "12"]:
            for many in range(4):
                self.assertIs(is_row(value, many), False, repr(value))
        self.assertIs(is_row((1,), True), False)
        self.assertIs(is_row((), False), False)
        self.assertIs(is_row((), None), False)

    def test_nothing_is_changed(self):
        row = [[1, 2], 3, [7, 2]]
        is_row(row, 3)
        is_number(row)
        self.same(row, [[1, 2], 3, [7, 2]])


if __name__ == "__main__":
    unittest.main()
