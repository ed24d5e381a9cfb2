"""hindprice.numbers."""

import operator
import unittest
from fractions import Fraction

from hindprice.errors import BadNumber, BadText, Misfit
from hindprice.numbers import is_below, minus, number_text, plus, power, quotient, read_number, times
from tests.support import NO_NUMBERS, Case, fraction, listed, told

TOP, BOTTOM = 10 ** 40 - 27, 10 ** 40 - 1
SMALL = [0, 1, -1, 2, -2, 7, (1, 2), (-1, 2), (1, 3), (2, 3), (-7, 2), (5, 6), (6, 5), [1, 6], [-3, 4]]
GREAT = [TOP, -TOP, told(Fraction(TOP, BOTTOM)), told(Fraction(-TOP, BOTTOM)), (1, BOTTOM), told(Fraction(BOTTOM, TOP))]
TWO = {plus: operator.add, minus: operator.sub, times: operator.mul}


class Reckoning(Case):
    def test_sums_differences_products(self):
        for call, by in TWO.items():
            for one in SMALL + GREAT:
                for other in SMALL + GREAT:
                    wanted = told(by(fraction(one), fraction(other)))
                    self.same(call(one, other), wanted)
                    self.same(call(other=other, one=one), wanted)

    def test_quotients(self):
        for one in SMALL + GREAT:
            for other in SMALL + GREAT:
                if other != 0:
                    self.same(quotient(one, other), told(fraction(one) / fraction(other)))
            self.raises(Misfit("other"), quotient, one, 0)

    def test_comparing(self):
        for one in SMALL + GREAT:
            for other in SMALL + GREAT:
                self.assertIs(is_below(one, other), fraction(one) < fraction(other))
        self.assertIs(is_below(other=1, one=0), True)

    def test_lists_for_pairs(self):
        for call in (plus, minus, times, quotient, is_below):
            self.same(call([1, 2], [2, 3]), call((1, 2), (2, 3)))
        self.same(power([1, 2], 2), (1, 4))
        self.same(number_text([1, 2]), "1/2")

    def test_what_is_no_number(self):
        for call in (plus, minus, times, quotient, is_below):
            for wrong in NO_NUMBERS:
                self.raises(BadNumber("one"), call, wrong, 1)
                self.raises(BadNumber("other"), call, 1, wrong)
                self.raises(BadNumber("one"), call, wrong, wrong)
                self.raises(BadNumber("one"), call, wrong, 0)
                self.raises(BadNumber("one"), call, other=None, one=wrong)
        for wrong in NO_NUMBERS:
            self.raises(BadNumber("number"), power, wrong, 1)
            self.raises(BadNumber("number"), power, wrong, None)
            self.raises(BadNumber("number"), number_text, wrong)

    def test_what_is_passed_stays(self):
        one, other = [1, 2], [2, 3]
        for call in (plus, minus, times, quotient, is_below):
            call(one, other)
        self.same([one, other], [[1, 2], [2, 3]])


class Powers(Case):
    def test_powers(self):
        for number in SMALL + GREAT:
            for many in (0, 1, 2, 3, 7, 10):
                wanted = told(fraction(number) ** many)
                self.same(power(number, many), wanted)
                self.same(power(many=many, number=number), wanted)

    def test_no_times_and_of_0(self):
        self.same([power(number, 0) for number in (0, 1, (1, 2), -3)], [1, 1, 1, 1])
        self.same([power(0, many) for many in (1, 2, 1000)], [0, 0, 0])

    def test_most_times(self):
        self.same(power(2, 1000), 2 ** 1000)
        self.same(power((-2, 3), 999), (-2 ** 999, 3 ** 999))
        self.assertEqual(power((TOP, BOTTOM), 1000), (TOP ** 1000, BOTTOM ** 1000))
        self.assertEqual(power(power(2, 1000), 10), 2 ** 10000)

    def test_wrong_times(self):
        for wrong in NO_NUMBERS + [-1, 1001, 10 ** 50, (1, 2)]:
            self.raises(BadNumber("many"), power, 2, wrong)
            self.raises(BadNumber("many"), power, (1, 2), many=wrong)


def item_errors():
    """Items that cannot stand for a number."""
    digits = "1" * 61
    return ["", "+1", "+1/2", "01", "00", "-01", "-0", "--1", "-", "1-", "4/2", "3/1", "6/3", "0/5", "1/0", "0/1",
            "1/-2", "-1/-2", "1/+2", "1/02", "01/2", "-0/2", "/", "1/", "/2", "1//2", "1/2/3", "-/2", "7/2/", "1.0",
            "1e3", "0x1", "1_000", "one", "1,5", "½", "²", "٣", "1/٣", "１", "1\n", "\n1", "1\t", "\t", "1\u00a0",
            digits, f"-{digits}", f"{digits}/2", f"1/{digits}", f"-1/{digits}", "0" * 61, "None", "True"]


class Texts(Case):
    def test_written_and_read_back(self):
        for number in SMALL + GREAT:
            text = number_text(number)
            self.assertEqual(text, str(fraction(number)))
            self.same(read_number(text), told(fraction(number)))
            self.same(read_number(text=text), told(fraction(number)))

    def test_sixty_digits(self):
        great = 10 ** 60 - 1
        for number in (great, -great, (great, 2), (-great, 2), (1, great), (-1, great), (great, great - 1)):
            self.same(read_number(number_text(number)), number)
        for number in (10 ** 60, -(10 ** 60), (10 ** 60 + 1, 2), (1, 10 ** 60)):
            self.raises(BadText(0), read_number, number_text(number))

    def test_great_texts(self):
        self.assertEqual(number_text(10 ** 3999), "1" + "0" * 3999)
        self.assertEqual(number_text(number=(1, 10 ** 3999)), "1/1" + "0" * 3999)

    def test_items_that_cannot_stand(self):
        for item in item_errors():
            self.raises(BadText(0), read_number, item)
            self.raises(BadText(0), read_number, f"{item} 1")

    def test_second_items_cannot_stand(self):
        for text in ("1 2", "1 ", "1/2 ", "-7/2 x", "0 1 2", "1  ", "1  2"):
            self.raises(BadText(1), read_number, text)
        for item in item_errors():
            self.raises(BadText(1), read_number, f"1/2 {item}")

    def test_blanks(self):
        for text in (" 1", "  1", " ", "  ", " 1/2 ", " 1 2"):
            self.raises(BadText(0), read_number, text)

    def test_no_strings(self):
        for value in NO_NUMBERS + [0, 1, 12, (1, 2), b"12", ["1"], ("1",)]:
            if not isinstance(value, str):
                self.raises(BadText(0), read_number, value)

    def test_long_strings(self):
        self.raises(BadText(0), read_number, "1" * 20000)
        self.raises(BadText(1), read_number, "1" + " " * 19999)
        self.raises(BadText(0), read_number, "1/" * 10000)


if __name__ == "__main__":
    unittest.main()
