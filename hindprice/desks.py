"""A desk keeps promises and books by names, and answers lines."""

from hindprice.books import Book
from hindprice.checks import is_list
from hindprice.codes import code_of
from hindprice.errors import BadLine, BadText, NoName, PriceError, Twice
from hindprice.needs import MOST_DAYS
from hindprice.prices import price, rest
from hindprice.promise_texts import PromiseReader, take_promise
from hindprice.robbers import robbed
from hindprice.sellers import Seller
from hindprice.shapes import MOST_GOODS
from hindprice.texts import number_item
from hindprice.worths import worth

LETTERS = "abcdefghijklmnopqrstuvwxyz"
DIGITS = "0123456789"
MOST_SIGNS = 12


def is_name(item):
    """Whether an item is a name."""
    if len(item) > MOST_SIGNS or not all([sign in LETTERS + DIGITS for sign in item]):
        return False
    return len(item) > 0 and item[0] not in DIGITS


def take_name(reader):
    """The name of the next item."""
    name = reader.take_item()
    if not is_name(name):
        reader.refuse_last()
    return name


def take_days(reader):
    """The number of days of the next item."""
    return reader.take_integer(0, MOST_DAYS)


def take_goods(reader):
    """The goods of all items that are left."""
    goods = []
    while reader.is_more():
        goods.append(reader.take_integer(0, MOST_GOODS - 1))
    return goods


def take_row(reader):
    """The numbers of all items that are left, one to five."""
    row = [reader.take_from_0()]
    while len(row) < MOST_GOODS and reader.is_more():
        row.append(reader.take_from_0())
    reader.finish()
    return row


def row_text(numbers):
    """Numbers with blanks between."""
    return " ".join([number_item(number) for number in numbers])


def tell_promise(desk, reader):
    """promise NAME TEXT"""
    name = take_name(reader)
    promise = take_promise(reader, 1)
    reader.finish()
    desk.need_free(name)
    desk.promises[name] = promise
    return str(promise.goods)


def tell_open(desk, reader):
    """open NAME OTHER DAYS"""
    name = take_name(reader)
    other = take_name(reader)
    days = take_days(reader)
    reader.finish()
    desk.need_free(name)
    book = Book(desk.promise_by(other), days)
    desk.books[name] = book
    return number_item(book.purse)


def tell_price(desk, reader):
    """price NAME DAYS"""
    name = take_name(reader)
    days = take_days(reader)
    reader.finish()
    return number_item(price(desk.promise_by(name), days))


def tell_rest(desk, reader):
    """rest NAME DAYS G .."""
    name = take_name(reader)
    days = take_days(reader)
    word = take_goods(reader)
    return number_item(rest(desk.promise_by(name), days, word))


def tell_rob(desk, reader):
    """rob NAME DAYS PURSE X .."""
    name = take_name(reader)
    days = take_days(reader)
    purse = reader.take_from_0()
    shares = take_row(reader)
    promise = desk.promise_by(name)
    told = robbed(promise, days, Seller(purse, [(shares, [0] * len(shares))]))
    return " ".join([*[str(good) for good in told.course], ":", row_text((told.has, told.owes))])


def tell_code(desk, reader):
    """code NAME G .."""
    name = take_name(reader)
    word = take_goods(reader)
    return code_of(desk.promise_by(name), len(word), word)


def tell_amounts(desk, reader):
    """amounts NAME"""
    name = take_name(reader)
    reader.finish()
    book = desk.book_by(name)
    if book.left == 0:
        return "-"
    return row_text(book.amounts)


def tell_day(desk, reader):
    """day NAME X .."""
    name = take_name(reader)
    day = take_row(reader)
    return number_item(desk.book_by(name).day(day))


def tell_owed(desk, reader):
    """owed NAME"""
    name = take_name(reader)
    reader.finish()
    book = desk.book_by(name)
    return number_item(worth(book.promise, book.market))


def tell_drop(desk, reader):
    """drop NAME"""
    name = take_name(reader)
    reader.finish()
    if name not in desk.names():
        raise NoName(name)
    desk.promises.pop(name, None)
    desk.books.pop(name, None)
    return name


TELLS = {
    "promise": tell_promise, "open": tell_open, "price": tell_price, "rest": tell_rest, "rob": tell_rob,
    "code": tell_code, "amounts": tell_amounts, "day": tell_day, "owed": tell_owed, "drop": tell_drop}


class Desk:
    """Promises and books, each by its name. It changes."""

    def __init__(self):
        self.promises = {}
        self.books = {}
        self.told = []

    def need_free(self, name):
        """A name by which nothing is kept."""
        if name in self.promises or name in self.books:
            raise Twice(name)

    def promise_by(self, name):
        """The promise that is kept by a name."""
        if name not in self.promises:
            raise NoName(name)
        return self.promises[name]

    def book_by(self, name):
        """The book that is kept by a name."""
        if name not in self.books:
            raise NoName(name)
        return self.books[name]

    def tell(self, line):
        """Do what a line says; what it answers."""
        reader = PromiseReader(line)
        word = reader.take_item()
        if word not in TELLS:
            reader.refuse_last()
        act = TELLS[word]
        answer = act(self, reader)
        self.told.append(line)
        return answer

    def names(self):
        """All names that are kept, ascending."""
        return tuple(sorted([*self.promises, *self.books]))

    def lines(self):
        """The lines that were told and did not raise."""
        return tuple(self.told)

    @staticmethod
    def read(lines):
        """The desk that is told the lines of a list."""
        if not is_list(lines):
            raise BadText(0)
        desk = Desk()
        for at, line in enumerate(lines):
            try:
                desk.tell(line)
            except PriceError as error:
                raise BadLine(at, error)
        return desk
