"""hindprice.errors."""

import unittest

from hindprice import errors
from hindprice.errors import BadLine, BadNumber, PriceError
from tests.support import STRANGE, Case

FIELDS = {
    "BadNumber": ["part"], "BadDay": ["part"], "BadMarket": ["part"], "BadMix": ["part"], "BadWord": ["part"],
    "BadPromise": ["part"], "BadMachine": ["part"], "BadSeller": ["part"], "BadCorner": ["part"],
    "BadCode": ["part"], "Misfit": ["part"], "NoName": ["value"], "Twice": ["value"], "TooMany": ["what", "most"],
    "BadText": ["item"], "BadLine": ["line", "error"]}
ANY = STRANGE + [[1, [2]], (1, (2,)), 10 ** 5000, ValueError("x"), "words", 0, -1]


class Errors(Case):
    def test_just_these_are_made(self):
        made = [name for name, value in vars(errors).items()
                if isinstance(value, type) and value.__module__ == "hindprice.errors"]
        self.assertEqual(sorted(made), sorted([*FIELDS, "PriceError"]))

    def test_base(self):
        self.assertEqual(PriceError.__bases__, (ValueError,))
        with self.assertRaises(ValueError):
            raise PriceError("anything")
        self.assertEqual(str(PriceError("anything")), "anything")

    def test_each_stands_directly_below_the_base(self):
        for name in FIELDS:
            self.assertEqual(getattr(errors, name).__bases__, (PriceError,), name)
            for other in FIELDS:
                if other != name:
                    self.assertFalse(issubclass(getattr(errors, name), getattr(errors, other)))

    def test_fields_by_place_and_by_name(self):
        for name, fields in FIELDS.items():
            kind = getattr(errors, name)
            for value in ANY:
                values = [value, [value]][:len(fields)]
                for error in (kind(*values), kind(**dict(zip(fields, values)))):
                    self.assertEqual(list(vars(error)), fields)
                    for field, kept in zip(fields, values):
                        self.assertIs(getattr(error, field), kept)

    def test_fields_are_wanted(self):
        for name, fields in FIELDS.items():
            kind = getattr(errors, name)
            with self.assertRaises(TypeError):
                kind()
            with self.assertRaises(TypeError):
                kind(*[1] * (len(fields) + 1))
            with self.assertRaises(TypeError):
                kind(**{"told": 1})

    def test_they_can_be_raised_and_shown(self):
        for name, fields in FIELDS.items():
            kind = getattr(errors, name)
            for error in (kind(*fields), kind(**dict.fromkeys(fields, "x"))):
                with self.assertRaises(kind) as caught:
                    raise error
                self.assertIs(caught.exception, error)
                self.assertIsInstance(str(error), str)
                self.assertIsInstance(repr(error), str)

    def test_an_error_within_an_error(self):
        inner = BadNumber("one")
        self.assertIs(BadLine(3, inner).error, inner)


if __name__ == "__main__":
    unittest.main()
