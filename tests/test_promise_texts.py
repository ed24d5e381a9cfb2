"""hindprice.promise_texts."""

import random
import re
import unittest
from fractions import Fraction

from hindprice.afters import after_day
from hindprice.errors import BadPromise, BadText
from hindprice.machines import Machine
from hindprice.promise_texts import promise_text, read_promise
from hindprice.promises import BestMix, BestWalk, Greatest, Hold, Mix, Promise, Sum, Then, Times
from tests.oracle import some_promise
from tests.support import STRANGE, Case
from tests.test_promises import NO_PROMISES, wide

INTEGER = r"-?[1-9][0-9]{0,59}|0"
CHAIN = Machine([(1, 0), ((1, 3), (2, 3))], [(0, 0), (0, 1), (1, 1)])
KINDS = [
    (Hold(2, 0), "hold 2 0"), (Hold(5, 4), "hold 5 4"), (Mix([(1, 2), (1, 2)]), "mix 2 1/2 1/2"), (Mix([1]), "mix 1 1"),
    (Times((3, 2), Hold(1, 0)), "times 3/2 hold 1 0"), (Times(0, Hold(3, 2)), "times 0 hold 3 2"),
    (Sum([Hold(2, 1), Mix([0, 1])]), "sum 2 hold 2 1 mix 2 0 1"), (Greatest([Hold(2, 1)]), "greatest 1 hold 2 1"),
    (Then(0, Hold(2, 0), BestMix(2, [0, 0])), "then 0 hold 2 0 best 2 0 0"),
    (Then(1000, Hold(1, 0), Hold(1, 0)), "then 1000 hold 1 0 hold 1 0"),
    (BestWalk(CHAIN, [0, (7, 2)]), "walk 2 2 1 0 1/3 2/3 3 0 0 0 1 1 1 0 7/2"),
    (BestMix(3, [0, 1000, 7]), "best 3 0 1000 7"), (BestMix(1, [0]), "best 1 0")]
NESTED = [
    Then(2, Times((3, 2), Greatest([Hold(2, 0), Hold(2, 1)])), Sum([Mix([(1, 2), (1, 2)]), BestMix(2, [0, 0])])),
    Sum([BestWalk(CHAIN, [1, 0]), Times(10 ** 59, Hold(2, 1)), Times((10 ** 60 - 1, 10 ** 59), BestMix(2, [3, 4]))]),
    Greatest([Mix([(1, 10 ** 39), (10 ** 39 - 1, 10 ** 39)]), Hold(2, 0)]),
    Times(0, Then(7, Mix([0, (1, 3), (2, 3)]), Hold(3, 1)))]
ITEMS = ["", "0", "1", "2", "3", "5", "6", "7", "1000", "1001", "-1", "-0", "01", "+1", "1/2", "1/3", "2/4", "4/2", "3/1",
         "-1/2", "hold", "mix", "times", "sum", "greatest", "then", "walk", "best", "Hold", "holds", "x", "1" * 61]


class Told(Exception):
    """Where the looked at text goes wrong."""


class Looking:
    """Goes through items by the words of the document."""

    def __init__(self, items):
        self.items, self.at, self.goods, self.many = items, 0, None, 0

    def wrong(self):
        raise Told(self.at)

    def integer(self, least, most):
        item = self.items[self.at] if self.at < len(self.items) else ""
        if not re.fullmatch(INTEGER, item) or not least <= int(item) <= most:
            self.wrong()
        self.at += 1
        return int(item)

    def number(self):
        item = self.items[self.at] if self.at < len(self.items) else ""
        if not re.fullmatch(rf"({INTEGER})(/[1-9][0-9]{{0,59}})?", item) or item.startswith("-"):
            self.wrong()
        if str(Fraction(item)) != item:
            self.wrong()
        self.at += 1
        return Fraction(item)

    def told_goods(self):
        goods = self.integer(1, 5)
        if self.goods not in (None, goods):
            self.at -= 1
            self.wrong()
        self.goods = goods
        return goods

    def mix(self, goods):
        whole = 0
        for good in range(goods):
            whole += self.number()
            if whole > 1 or (good == goods - 1 and whole != 1):
                self.at -= 1
                self.wrong()

    def arrows(self, many):
        ahead, met = (-1, -1), set()
        for _ in range(self.integer(1, many * many)):
            begin = self.integer(max(0, ahead[0]), many - 1)
            ends = range(ahead[1] + 1 if begin == ahead[0] else 0, many)
            if not ends:
                self.wrong()
            ahead = (begin, self.integer(ends[0], many - 1))
            met.add(begin)
        if len(met) < many:
            self.at -= 1
            self.wrong()

    def promise(self, level):
        self.many += 1
        word = self.items[self.at] if self.at < len(self.items) else None
        if level == 7 or self.many == 41 or word not in ("hold mix times sum greatest then walk best".split()):
            self.wrong()
        self.at += 1
        if word == "hold":
            self.integer(0, self.told_goods() - 1)
        elif word == "mix":
            self.mix(self.told_goods())
        elif word == "walk":
            many = self.integer(1, 6)
            goods = self.told_goods()
            for _ in range(many):
                self.mix(goods)
            self.arrows(many)
            for _ in range(many):
                self.number()
        elif word == "best":
            for _ in range(self.told_goods()):
                self.integer(0, 1000)
        else:
            parts = 1
            if word == "times":
                self.number()
            elif word == "then":
                self.integer(0, 1000)
                parts = 2
            else:
                parts = self.integer(1, 6)
            for _ in range(parts):
                self.promise(level + 1)

    def first_wrong(self):
        try:
            self.promise(1)
            if self.at < len(self.items):
                self.wrong()
        except Told as told:
            return told.args[0]
        return None


class Written(Case):
    def test_each_kind(self):
        for promise, text in KINDS:
            self.same(promise_text(promise), text)
            self.same(promise_text(promise=promise), text)
            back = read_promise(text)
            self.assertIs(back == promise, True)
            self.assertIs(type(back), type(promise))
            self.assertIs(read_promise(text=text) == promise, True)

    def test_nested_and_great(self):
        for promise in NESTED:
            text = promise_text(promise)
            back = read_promise(text)
            self.assertIs(back == promise, True)
            self.same((back.levels, back.many, back.goods), (promise.levels, promise.many, promise.goods))
            self.same(promise_text(back), text)
        self.same(promise_text(NESTED[3]), "times 0 then 7 mix 3 0 1/3 2/3 hold 3 1")
        self.assertIn(f" {10 ** 60 - 1}/{10 ** 59} best 2 3 4", promise_text(NESTED[1]))

    def test_some(self):
        chance = random.Random(61)
        for _ in range(300):
            promise = some_promise(chance, chance.randint(1, 5), 4)
            self.assertIs(read_promise(promise_text(promise)) == promise, True)

    def test_what_was_returned_has_a_text(self):
        left = after_day(Sum([Greatest([Sum([Greatest([Sum([Hold(1, 0)])])])])]), (3,))
        self.same(promise_text(left), "sum 1 greatest 1 sum 1 greatest 1 sum 1 times 3 hold 1 0")
        self.raises(BadText(12), read_promise, promise_text(left))

    def test_no_promises(self):
        for value in NO_PROMISES + [KINDS[0][1], CHAIN, Promise()]:
            self.raises(BadPromise("promise"), promise_text, value)


class Refused(Case):
    def check(self, items):
        item = Looking(items).first_wrong()
        text = " ".join(items)
        if item is None:
            self.assertEqual(promise_text(read_promise(text)), text)
        else:
            self.raises(BadText(item), read_promise, text)

    def test_no_strings(self):
        for value in STRANGE + [0, Hold(1, 0), ["hold", "1", "0"], ("hold", "1", "0"), b"hold 1 0"]:
            if not isinstance(value, str):
                self.raises(BadText(0), read_promise, value)

    def test_by_hand(self):
        for text, item in (
                ("", 0), (" ", 0), ("hold", 1), ("hold 1", 2), ("hold 0 0", 1), ("hold 6 0", 1), ("hold 2 2", 2),
                ("hold 2 -1", 2), ("hold 1 0 ", 3), (" hold 1 0", 0), ("hold  1 0", 1), ("Hold 1 0", 0),
                ("mix 2 1/2 1/3", 3), ("mix 2 3/2 0", 2), ("mix 2 1/2 1/2 0", 4), ("mix 0", 1), ("mix 6", 1), ("mix 1 0", 2),
                ("mix 3 1/2 1/2 1/2", 4), ("mix 2 1/2 2/4", 3), ("times -1 hold 1 0", 1), ("times 1/0 hold 1 0", 1),
                ("times 2", 2), ("sum 0", 1), ("sum 7", 1), ("sum 2 hold 2 0 hold 3 0", 6), ("greatest 2 hold 1 0", 5),
                ("greatest 1 hold 1 0 hold 1 0", 5), ("then 1001 hold 1 0 hold 1 0", 1), ("then -1 hold 1 0 hold 1 0", 1),
                ("then 2 hold 2 0 mix 3 1 0 0", 6), ("then 2 hold 2 0 best 1 0", 6),
                ("then 2 hold 2 0 walk 1 1 1 1 0 0 0", 7), ("then 2 walk 1 1 1 1 0 0 0 hold 2 0", 11),
                ("sum 2 mix 2 1 0 walk 1 3 1 0 0 1 0 0 0", 8), ("best 2 0 1001", 3), ("best 2 0 -1", 3), ("best 2 0", 3),
                ("best 2 0 1/2", 3), ("walk 1 1 1 1 0 0", 7), ("walk 1 1 1 1 0 0 -1", 7), ("walk 7 1", 1), ("walk 1 6", 2),
                ("walk 2 1 1 1 2 0 1 0 0 1 1", 9), ("walk 2 1 1 1 1 0 0 1 1", 7), ("walk 1 1 1 1 0 0 1 1", 8),
                ("sum 2 hold 1 0 sum 2 hold 1 0 then", 11)):
            with self.subTest(text=text):
                self.raises(BadText(item), read_promise, text)
                self.assertEqual(Looking(text.split(" ")).first_wrong(), item)

    def test_the_seventh_level(self):
        six = "times 1 " * 5 + "hold 1 0"
        self.same(read_promise(six).levels, 6)
        self.raises(BadText(12), read_promise, "times 1 " + six)
        self.raises(BadText(12), read_promise, "times 1 " * 6 + "what")
        self.raises(BadText(12), read_promise, "times 1 " * 6)
        self.raises(BadText(12), read_promise, ("times 1 " * 6)[:-1])
        self.raises(BadText(11 + 4), read_promise, "times 1 " * 4 + "sum 2 hold 1 0 times 1 times 1 hold 1 0")

    def test_the_forty_first_promise(self):
        text = promise_text(wide(40))
        self.same(read_promise(text).many, 40)
        # One more part in the last sum of ones, for which nothing is counted ahead.
        more = "sum 6 " + " ".join(["sum 6 " + " ".join(["hold 1 0"] * 6)] * 6)
        items = more.split(" ")
        # 1 + 5 * 7 + 1 promises are ahead of the last sum's parts: three of them may stand.
        place = 2 + 5 * (2 + 6 * 3) + 2 + 3 * 3
        self.assertEqual(items[place], "hold")
        self.raises(BadText(place), read_promise, more)
        self.raises(BadText(place), read_promise, " ".join(items[:place] + ["what"]))
        self.raises(BadText(place), read_promise, " ".join(items[:place]))
        self.raises(BadText(place - 1), read_promise, " ".join(items[:place - 1] + ["1"]))

    def test_cut_off(self):
        for promise in [promise for promise, _ in KINDS] + NESTED:
            items = promise_text(promise).split(" ")
            for at in range(1, len(items)):
                self.raises(BadText(at), read_promise, " ".join(items[:at]))

    def test_exchanged_left_out_put_in_doubled(self):
        for promise in [promise for promise, _ in KINDS] + NESTED:
            items = promise_text(promise).split(" ")
            self.check(items)
            for at in range(len(items)):
                self.check([*items[:at], *items[at + 1:]])
                self.check([*items[:at + 1], *items[at:]])
                for item in ITEMS:
                    self.check([*items[:at], item, *items[at + 1:]])
                    self.check([*items[:at], item, *items[at:]])
            for item in ITEMS:
                self.check([*items, item])

    def test_some_with_items_exchanged(self):
        chance = random.Random(62)
        for _ in range(400):
            items = promise_text(some_promise(chance, chance.randint(1, 3), 5)).split(" ")
            one, other = chance.randrange(len(items)), chance.randrange(len(items))
            items[one], items[other] = items[other], items[one]
            self.check(items)


if __name__ == "__main__":
    unittest.main()
