"""Texts: the items of numbers, and a reader that goes through a text item by item."""

from hindprice.checks import is_from_0, is_number, is_within
from hindprice.errors import BadText
from hindprice.exact import bottom_of, integer_power, top_of

MOST_DIGITS = 60
SHORT_BITS = 10000


def integer_item(number):
    """The item that writes an integer, however many digits it has: Python itself writes only so many at once."""
    if number < 0:
        return "-" + integer_item(-number)
    if number.bit_length() < SHORT_BITS:
        return str(number)
    # Some 10 bits make 3 digits: this is about the half of all.
    many = number.bit_length() // 7
    whole, rest = divmod(number, integer_power(10, many))
    return integer_item(whole) + integer_item(rest).zfill(many)


def number_item(number):
    """The item that writes a number."""
    if bottom_of(number) == 1:
        return integer_item(top_of(number))
    return f"{integer_item(top_of(number))}/{integer_item(bottom_of(number))}"


def is_digits(text):
    """Whether a text is the digits of an integer from 0 on, as they are written."""
    # isdigit alone would let pass digits of other scripts.
    if not text.isascii() or not text.isdigit() or len(text) > MOST_DIGITS:
        return False
    return text == "0" or not text.startswith("0")


def integer_in(item):
    """The integer that an item writes, None if it writes none."""
    if item == "-0" or not is_digits(item.removeprefix("-")):
        return None
    return int(item)


def number_in(item):
    """The number that an item writes, None if it writes none."""
    top, line, bottom = item.partition("/")
    if line == "":
        return integer_in(item)
    pair = (integer_in(top), integer_in(bottom))
    if not is_number(pair):
        return None
    return pair


class Reader:
    """Goes through the items of a text; raises BadText where one cannot stand."""

    def __init__(self, text):
        if not isinstance(text, str):
            raise BadText(0)
        self.all_items = text.split(" ")
        self.at = 0

    def take_item(self):
        """The next item, whatever it is."""
        if self.at == len(self.all_items):
            raise BadText(self.at)
        self.at += 1
        return self.all_items[self.at - 1]

    def take_integer(self, least, most):
        """The integer of the next item, within these bounds, None being none."""
        value = integer_in(self.take_item())
        if not is_within(value, least, most):
            self.refuse_last()
        return value

    def take_number(self):
        """The number of the next item."""
        value = number_in(self.take_item())
        if value is None:
            self.refuse_last()
        return value

    def take_from_0(self):
        """The number of the next item, from 0 on."""
        value = self.take_number()
        if not is_from_0(value):
            self.refuse_last()
        return value

    def refuse_last(self):
        """The item that was taken last cannot stand."""
        raise BadText(self.at - 1)

    def is_more(self):
        """Whether an item is left."""
        return self.at < len(self.all_items)

    def finish(self):
        """No item may be left."""
        if self.is_more():
            raise BadText(self.at)
