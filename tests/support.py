"""What several tests need."""

import importlib
import unittest
from fractions import Fraction
from pathlib import Path

ROOT = Path(__file__).resolve().parent.parent
PACKAGE = ROOT / "hindprice"

# Values that are no integer, no number, no list and none of the package's own.
STRANGE = [True, False, None, "", "1", b"1", 1.0, 0.5, Fraction(1, 2), {}, {1: 2}, {1, 2}, range(2), object(), int]
# No numbers although they look like some.
NO_NUMBERS = STRANGE + [
    (), [], (1,), [1, 2, 3], (4, 2), (3, 1), (0, 5), (0, 1), (1, 0), (1, -2), (-1, -2), (True, 2), (1, True),
    (2, False), ("1", 2), (1, "2"), (1, None), ((1, 2), 3), (1, (2, 3)), (1.0, 2), (6, 3), [10, 4]]


class Case(unittest.TestCase):
    """A test that also looks at the fields of errors."""

    def raises(self, error, call, *told, **named):
        """The call raises an error of just this class, with just these fields."""
        with self.assertRaises(type(error), msg=f"{call} {told!r} {named!r}") as caught:
            call(*told, **named)
        self.assertIs(type(caught.exception), type(error))
        note = f"{call} {told!r} {named!r}"
        self.assertEqual(repr(vars(caught.exception)), repr(vars(error)), note)

    def same(self, value, wanted):
        """Equal, and True and False stand for no number, nor lists for tuples."""
        self.assertEqual(repr(value), repr(wanted))
        self.assertEqual(value, wanted)


def told(fraction):
    """A Fraction as the package writes a number."""
    fraction = Fraction(fraction)
    if fraction.denominator == 1:
        return fraction.numerator
    return (fraction.numerator, fraction.denominator)


def fraction(number):
    """A number of the package as a Fraction."""
    return Fraction(number) if isinstance(number, int) else Fraction(number[0], number[1])


def listed(value):
    """The value with lists in the place of tuples, all the way in."""
    if isinstance(value, (list, tuple)):
        return [listed(item) for item in value]
    return value


def names():
    """All names of all modules of the package."""
    found = {}
    for path in sorted(PACKAGE.glob("*.py")):
        if path.stem not in ("__init__", "__main__"):
            module = importlib.import_module(f"hindprice.{path.stem}")
            for name, value in vars(module).items():
                if getattr(value, "__module__", None) == module.__name__:
                    found[name] = value
    return found
