"""hindprice.desks."""

import random
import re
import string
import unittest
from fractions import Fraction

from hindprice.books import Book
from hindprice.codes import code_of
from hindprice.desks import Desk
from hindprice.errors import (
    BadDay, BadLine, BadNumber, BadSeller, BadText, BadWord, Misfit, NoName, PriceError, TooMany, Twice)
from hindprice.numbers import number_text
from hindprice.prices import price, rest
from hindprice.promise_texts import promise_text, read_promise
from hindprice.promises import BestMix
from hindprice.robbers import robbed
from hindprice.sellers import Seller
from hindprice.worths import has_best, worth
from tests import oracle
from tests.support import STRANGE, Case

WISE, CALM = "best 2 0 0", "greatest 2 hold 2 0 hold 2 1"
LINES = [
    "promise new greatest 2 times 1/2 hold 2 0 mix 2 1/3 2/3", "promise far hold 3 2", "open book wise 2", "open b2 calm 0", "price wise 2",
    "price calm 100", "rest wise 2 0", "rest wise 2", "rest calm 12 0 1 0 1", "rob wise 2 2 1/2 1/2", "rob calm 1 0 1 0", "code wise 0 1",
    "code calm", "amounts mine", "day mine 2 1", "day mine 1/2 7/3", "owed safe", "drop wise", "drop mine", "names", "lines", "",
    "rob one 2 1/2 1", "day safe 1 2 3 4 5", "rest one 5 0 0 0 0 0"]
BLOCKS = {"promise": "nt", "open": "nnd", "price": "nd", "rest": "ndg", "rob": "ndpx", "code": "ng", "amounts": "n", "day": "nx",
          "owed": "n", "drop": "n"}


def some_desk():
    desk = Desk()
    for line in (f"promise wise {WISE}", f"promise calm {CALM}", "open mine wise 3", "open safe calm 2", "promise one hold 1 0"):
        desk.tell(line)
    return desk


def seen(desk):
    """All that may be seen of a desk."""
    books = {}
    for name in desk.names():
        try:
            books[name] = desk.tell(f"amounts {name}")
        except NoName:
            books[name] = [desk.tell(f"price {name} {days}") for days in range(4)]
    return desk.names(), books


def is_integer(item, most):
    return re.fullmatch("0|[1-9][0-9]{0,59}", item, re.ASCII) is not None and int(item) <= most


def is_from_0(item):
    found = re.fullmatch("(0|[1-9][0-9]{0,59})(/(0|[1-9][0-9]{0,59}))?", item, re.ASCII)
    if not found:
        return False
    return found[2] is None or int(found[3]) > 1 and Fraction(int(found[1]), int(found[3])).denominator == int(found[3])


STANDS = {"n": lambda item: re.fullmatch("[a-z][a-z0-9]{0,11}", item, re.ASCII) is not None, "d": lambda item: is_integer(item, 1000),
          "p": is_from_0, "g": lambda item: is_integer(item, 4), "x": is_from_0}


def first_wrong(line):
    """The index of the first item that cannot stand, None if all can."""
    items = line.split(" ")
    if items[0] not in BLOCKS:
        return 0
    at = 1
    for block in BLOCKS[items[0]]:
        if block == "t":
            if at == len(items):
                return at
            try:
                read_promise(" ".join(items[at:]))
            except BadText as error:
                return at + error.item
            return None
        least, most = {"g": (0, 10 ** 6), "x": (1, 5)}.get(block, (1, 1))
        taken = 0
        while taken < most and at < len(items):
            if not STANDS[block](items[at]):
                return at
            taken += 1
            at += 1
        if taken < least:
            return at
    return None if at == len(items) else at


def changed(chance, line):
    """A line with one item exchanged, left out, put in, doubled or cut off, or with all behind it left out."""
    items = line.split(" ")
    at = chance.randrange(len(items))
    other = chance.choice(["", "0", "1", "-1", "5", "1/2", "2/4", "60", "1001", "wise", "mine", "Wise", "a1", "1a", "hold", "best", "01",
                           "+1", "1.5", "a" * 12, "a" * 13, "1" * 60, "1" * 61, "\u0663", "x\n", "-0", "7/", "/7", "1/1", ":", "calm"])
    kind = chance.randrange(6)
    if kind == 0:
        items[at] = other
    elif kind == 1:
        del items[at]
    elif kind == 2:
        items.insert(at + chance.randrange(2), other)
    elif kind == 3:
        items.insert(at, items[at])
    elif kind == 4:
        items[at] = items[at][:-1]
    else:
        del items[at:]
    return " ".join(items)


class Lines(Case):
    def test_answers(self):
        desk = Desk()
        chance = random.Random(231)
        for at in range(60):
            goods = chance.randint(1, 3)
            promise, name = oracle.some_promise(chance, goods, 3), f"p{at}"
            self.same(desk.tell(f"promise {name} {promise_text(promise)}"), str(goods))
            days = chance.randint(0, 4)
            word = oracle.some_word(chance, goods, chance.randint(0, days))
            self.same(desk.tell(f"price {name} {days}"), number_text(price(promise, days)))
            goods_text = "".join(f" {good}" for good in word)
            self.same(desk.tell(f"rest {name} {days}{goods_text}"), number_text(rest(promise, days, word)))
            self.check_code(desk, name, promise, word, goods_text)
            self.check_rob(desk, chance, name, promise, days)
            self.check_book(desk, chance, name, promise, days)
        self.same(len(desk.names()), 120)

    def check_code(self, desk, name, promise, word, goods_text):
        if oracle.worth_at(promise, word) > 0:
            self.same(desk.tell(f"code {name}{goods_text}"), code_of(promise, len(word), word))
        else:
            self.raises(Misfit("word"), desk.tell, f"code {name}{goods_text}")

    def check_rob(self, desk, chance, name, promise, days):
        shares, purse = oracle.some_mix(chance, promise.goods), oracle.some_number(chance)
        line = f"rob {name} {days} {number_text(purse)} {' '.join(map(number_text, shares))}"
        seller = Seller(purse, [(shares, (0,) * promise.goods)])
        try:
            told = robbed(promise, days, seller)
        except Misfit:
            self.raises(Misfit("seller"), desk.tell, line)
            return
        items = [*map(str, told.course), ":", number_text(told.has), number_text(told.owes)]
        self.same(desk.tell(line), " ".join(items))

    def check_book(self, desk, chance, name, promise, days):
        book = Book(promise, days)
        self.same(desk.tell(f"open b{name} {name} {days}"), number_text(book.purse))
        for day in oracle.some_market(chance, promise.goods, days):
            self.same(desk.tell(f"amounts b{name}"), " ".join(map(number_text, book.amounts)))
            self.same(desk.tell(f"day b{name} {' '.join(map(number_text, day))}"), number_text(book.day(day)))
            if has_best(promise):
                self.raises(Misfit("promise"), desk.tell, f"owed b{name}")
            else:
                self.same(desk.tell(f"owed b{name}"), number_text(worth(promise, book.market)))
        self.same(desk.tell(f"amounts b{name}"), "-")
        self.raises(Misfit("days"), desk.tell, f"day b{name} {' '.join('1' * promise.goods)}")

    def test_without_goods_and_days(self):
        desk = some_desk()
        self.same(desk.tell("rest wise 2"), desk.tell("price wise 2"))
        self.same(desk.tell("code wise"), "1")
        self.same(desk.tell("rob wise 0 1/2 1 0"), ": 1/2 1")
        self.same(desk.tell("open none calm 0"), "1")
        self.same((desk.tell("amounts none"), desk.tell("owed none"), desk.tell("price calm 1000")), ("-", "1", "2"))

    def test_answers_of_many_digits(self):
        desk = Desk()
        great = "9" * 60
        desk.tell(f"promise long times {great} hold 1 0")
        desk.tell("open book long 100")
        for _ in range(90):
            told = desk.tell(f"day book {great}")
        self.assertEqual(len(told), 91 * 60)
        wanted = (10 ** 60 - 1) ** 91
        self.assertEqual(int(told[-1000:]), wanted % 10 ** 1000)
        self.assertEqual(int(told[:1000]), wanted // 10 ** (91 * 60 - 1000))

    def test_a_book_goes_on(self):
        desk = some_desk()
        self.same(desk.tell("drop wise"), "wise")
        self.same(desk.names(), ("calm", "mine", "one", "safe"))
        book = Book(BestMix(2, (0, 0)), 3)
        self.same(desk.tell("day mine 2 1"), number_text(book.day((2, 1))))
        self.same(desk.tell("amounts mine"), " ".join(map(number_text, book.amounts)))
        # The name may be kept again, by another promise or by a book: the book stays as it is.
        self.same(desk.tell("promise wise hold 3 0"), "3")
        self.same(desk.tell("day mine 1/2 1"), number_text(book.day(((1, 2), 1))))
        self.same(desk.tell("drop mine"), "mine")
        self.raises(NoName("mine"), desk.tell, "amounts mine")
        self.same(desk.tell("open mine wise 1"), "1")
        self.same(desk.tell("amounts mine"), "1 0 0")

    def test_books_of_one_promise_go_on_by_themselves(self):
        desk = some_desk()
        desk.tell("open other wise 3")
        desk.tell("day other 5 0")
        self.same(desk.tell("amounts mine"), " ".join(map(number_text, Book(BestMix(2, (0, 0)), 3).amounts)))


class Names(Case):
    def test_signs(self):
        for name in ("a", "z", "a0", "z9", "abcdefghijkl", "a12345678901", "hold", "promise", "price", "drop"):
            desk = Desk()
            desk.tell(f"promise {name} {CALM}")
            self.same(desk.names(), (name,))
            self.same(desk.tell(f"drop {name}"), name)
        for name in ("", "0", "0a", "9", "A", "aB", "a_", "a-b", "a.b", "abcdefghijklm", "a" * 40, "\u00e4", "a\u00e4", "a\n", "\ta", "a\u0661"):
            for line, item in ((f"promise {name} {CALM}", 1), (f"open {name} calm 2", 1), (f"open new {name} 2", 2), (f"price {name} 2", 1),
                               (f"drop {name}", 1), (f"owed {name}", 1), (f"day {name} 1 2", 1), (f"code {name} 0", 1)):
                self.raises(BadText(item), some_desk().tell, line)
        for sign in string.printable:
            if sign not in string.ascii_lowercase + string.digits + " ":
                self.raises(BadText(1), some_desk().tell, f"drop a{sign}")

    def test_ascending(self):
        desk = Desk()
        for name in ("b", "a", "ab", "a1", "b0", "aa"):
            desk.tell(f"promise {name} {CALM}")
        desk.tell("open a0 b 2")
        desk.tell("open c a 2")
        self.same(desk.names(), ("a", "a0", "a1", "aa", "ab", "b", "b0", "c"))
        self.same(Desk().names(), ())

    def test_twice(self):
        for name in ("wise", "mine"):
            desk = some_desk()
            before = seen(desk)
            self.raises(Twice(name), desk.tell, f"promise {name} hold 1 0")
            self.raises(Twice(name), desk.tell, f"open {name} calm 2")
            # Ahead of NoName, and of what Book raises.
            self.raises(Twice(name), desk.tell, f"open {name} nobody 2")
            self.raises(Twice(name), desk.tell, f"open {name} mine 2")
            self.raises(Twice(name), desk.tell, f"open {name} wise 1000")
            # Behind items that cannot stand.
            self.raises(BadText(4), desk.tell, f"promise {name} hold 1 1")
            self.raises(BadText(3), desk.tell, f"open {name} calm 1001")
            self.assertEqual(seen(desk), before)

    def test_no_name(self):
        desk = some_desk()
        for name in ("nobody", "mine"):
            for line in (f"open new {name} 2", f"price {name} 2", f"rest {name} 2 0", f"rob {name} 2 2 1/2 1/2", f"code {name} 0 1",
                         f"price {name} 1000", f"rest {name} 1 4 4", f"rob {name} 2 100 1 1", f"code {name} 4"):
                self.raises(NoName(name), desk.tell, line)
        for name in ("nobody", "wise"):
            for line in (f"amounts {name}", f"day {name} 2 1", f"day {name} 1 2 3", f"owed {name}"):
                self.raises(NoName(name), desk.tell, line)
        self.raises(NoName("nobody"), desk.tell, "drop nobody")
        self.raises(NoName("new"), desk.tell, "price new 1")
        for line in ("amounts nobody 1", "day nobody", "day nobody -1", "price nobody 1001", "drop nobody nobody"):
            with self.assertRaises(BadText):
                desk.tell(line)


class Refused(Case):
    def test_lines(self):
        chance = random.Random(232)
        refused = told = 0
        for _ in range(2500):
            line = changed(chance, chance.choice(LINES))
            if chance.random() < 0.2:
                line = changed(chance, line)
            desk = some_desk()
            wrong = first_wrong(line)
            if wrong is not None:
                self.raises(BadText(wrong), desk.tell, line)
                refused += 1
            else:
                try:
                    desk.tell(line)
                    told += 1
                    self.same(desk.lines()[-1], line)
                except BadText:
                    self.fail(line)
                except PriceError:
                    pass
        self.assertGreater(refused, 1000)
        self.assertGreater(told, 80)

    def test_by_hand(self):
        for line, item in (
                ("", 0), (" ", 0), ("Price wise 2", 0), ("price", 1), ("price ", 1), ("price wise", 2), ("price wise 2 ", 3), ("price  wise 2", 1),
                (" price wise 2", 0), ("price wise 2 3", 3), ("price wise -1", 2), ("price wise 1001", 2), ("price wise 02", 2), ("price wise 1/2", 2),
                ("promise", 1), ("promise a", 2), ("promise a ", 2), ("promise a hold 2 2", 4), ("promise a hold 2", 4), ("promise a hold 2 0 0", 5),
                ("promise a sum 2 hold 2 0 hold 3 0", 8), ("promise a mix 2 1/2 1/3", 5), ("promise a greatest 2 hold 1 0", 7),
                ("open a wise", 3), ("open a wise 2 2", 4), ("rest wise 2 5", 3), ("rest wise 2 0 -1", 4), ("rest wise 2 0 ", 4), ("rest wise", 2),
                ("rob wise 2 2", 4), ("rob wise 2", 3), ("rob wise 2 -1 1", 3), ("rob wise 2 1 1 1 1 1 1 1", 9), ("rob wise 2 1 1 -1", 5),
                ("code wise 0 5", 3), ("code wise 1/2", 2), ("code", 1), ("amounts mine 1", 2), ("day mine", 2), ("day mine 1 2 3 4 5 6", 7),
                ("day mine 1 4/2", 3), ("day mine 1 -1", 3), ("owed mine mine", 2), ("drop", 1), ("drop wise wise", 2), ("names", 0), ("read", 0)):
            self.raises(BadText(item), some_desk().tell, line)
        for value in STRANGE:
            if not isinstance(value, str):
                self.raises(BadText(0), some_desk().tell, value)
        for value in (0, ["price", "wise", "2"], ("drop wise",)):
            self.raises(BadText(0), some_desk().tell, value)

    def test_levels_and_promises(self):
        for levels in range(1, 9):
            line = "promise deep " + "times 1 " * (levels - 1) + "hold 1 0"
            if levels <= 6:
                self.same(Desk().tell(line), "1")
            else:
                self.raises(BadText(2 + 2 * 6), Desk().tell, line)
        many = "promise wide sum 6" + " sum 6 hold 1 0 hold 1 0 hold 1 0 hold 1 0 hold 1 0 hold 1 0" * 5 + " sum {}" + " hold 1 0" * 4
        self.raises(BadText(len(many.split()) - 3), Desk().tell, many.format(4))
        self.same(Desk().tell(many.format(3)[:-len(" hold 1 0")]), "1")

    def test_what_others_raise(self):
        for line, error in (
                ("open new wise 1000", None), ("open new three 100", TooMany("counts", 5000)), ("price three 99", TooMany("counts", 5000)),
                ("price steps 13", TooMany("words", 4096)), ("rest steps 1000 0", TooMany("words", 4096)), ("open new steps 13", TooMany("words", 4096)),
                ("rest wise 2 2", BadWord("word")), ("rest wise 1 0 1", Misfit("word")), ("rest wise 1 4 4", BadWord("word")),
                ("rob wise 2 100 1/2 1/2", Misfit("seller")), ("rob wise 2 2 1/2 1/3", BadSeller("rows")), ("rob wise 2 2 1", BadSeller("seller")),
                ("rob wise 2 2 1/2 1/4 1/4", BadSeller("seller")), ("rob steps 13 2 1/2 1/2", TooMany("words", 4096)),
                ("rob three 99 2 1 1 1", BadSeller("rows")), ("code wise 2", BadWord("word")), ("code left 1", Misfit("word")),
                ("code wise" + " 0" * 13, TooMany("words", 4096)), ("code wise" + " 0" * 1001, BadNumber("days")),
                ("day mine 1", BadDay("day")), ("day mine 1 2 3", BadDay("day")), ("owed mine", Misfit("promise")), ("day over 1", Misfit("days")),
                ("day over 1 1", BadDay("day"))):
            desk = some_desk()
            for other in ("promise three best 3 0 0 0", "promise steps walk 1 2 1 0 1 0 0 1", "promise left hold 2 0", "open over one 0"):
                desk.tell(other)
            before, lines = seen(desk), len(desk.lines())
            if error is None:
                desk.tell(line)
                continue
            self.raises(error, desk.tell, line)
            self.raises(error, desk.tell, line=line)
            self.assertNotIn(line, desk.lines())
            self.assertEqual(seen(desk), before)
            self.assertGreater(lines, 0)

    def test_what_raises_changes_nothing(self):
        chance = random.Random(233)
        for _ in range(300):
            desk, other = some_desk(), some_desk()
            for _ in range(6):
                line = chance.choice(LINES) if chance.random() < 0.5 else changed(chance, chance.choice(LINES))
                before = desk.lines()
                try:
                    desk.tell(line)
                    other.tell(line)
                    self.same(desk.lines(), (*before, line))
                except PriceError:
                    self.same(desk.lines(), before)
            self.same(desk.lines(), other.lines())
            self.assertEqual(seen(desk), seen(other))


class Kept(Case):
    def test_lines(self):
        desk = Desk()
        self.same(desk.lines(), ())
        told = [f"promise wise {WISE}", "price wise 2", "price wise 2", "drop wise"]
        for line in told:
            desk.tell(line)
        self.raises(NoName("wise"), desk.tell, "drop wise")
        self.same(desk.lines(), tuple(told))

    def test_read(self):
        chance = random.Random(234)
        for _ in range(60):
            desk = some_desk()
            for _ in range(8):
                try:
                    desk.tell(chance.choice(LINES))
                except PriceError:
                    pass
            for lines in (desk.lines(), list(desk.lines())):
                other = Desk.read(lines)
                self.assertIsInstance(other, Desk)
                self.same(other.lines(), desk.lines())
                self.assertEqual(seen(other), seen(Desk.read(lines=lines)))
            self.assertEqual(seen(Desk.read(desk.lines())), seen(desk))
        for lines in ([], ()):
            self.same((Desk.read(lines).names(), Desk.read(lines).lines()), ((), ()))
        self.same(Desk().read([f"promise wise {WISE}"]).names(), ("wise",))

    def test_read_lines_that_raise(self):
        begun = [f"promise wise {WISE}", "open mine wise 2"]
        for lines, at, error in (
                ([*begun, "price nobody 2"], 2, NoName("nobody")), ([*begun, *begun], 2, Twice("wise")), (["drop a", *begun], 0, NoName("a")),
                ([*begun, 7, "price"], 2, BadText(0)), ([None], 0, BadText(0)), ([*begun, "day mine 1 -1", "drop b"], 2, BadText(3)),
                ((*begun, "price wise 2", "owed mine"), 3, Misfit("promise")), ([begun], 0, BadText(0))):
            with self.assertRaises(BadLine) as caught:
                Desk.read(lines)
            self.assertIs(type(caught.exception), BadLine)
            self.same(caught.exception.line, at)
            self.assertIs(type(caught.exception.error), type(error))
            self.assertEqual(vars(caught.exception.error), vars(error))

    def test_read_what_is_no_list(self):
        for value in STRANGE + [0, "price wise 2", f"promise wise {WISE}", {"drop a": 1}, Desk()]:
            if not isinstance(value, (list, tuple)):
                self.raises(BadText(0), Desk.read, value)


if __name__ == "__main__":
    unittest.main()
