"""The texts of promises."""

from hindprice.machines import MOST_STANDINGS, machine_items, take_machine, take_mix
from hindprice.needs import MOST_DAYS
from hindprice.promises import (
    MOST_COUNT,
    MOST_LEVELS,
    MOST_PARTS,
    MOST_PROMISES,
    BestMix,
    BestWalk,
    Greatest,
    Hold,
    Mix,
    Sum,
    Then,
    Times,
    need_promise,
    parts_in,
)
from hindprice.shapes import MOST_GOODS
from hindprice.texts import Reader, number_item


def head_items(promise):
    """The items of the text of a promise ahead of those of its parts."""
    if isinstance(promise, Hold):
        return ["hold", str(promise.goods), str(promise.good)]
    if isinstance(promise, Mix):
        return ["mix", str(promise.goods), *[number_item(share) for share in promise.shares]]
    if isinstance(promise, Times):
        return ["times", number_item(promise.number)]
    if isinstance(promise, Sum):
        return ["sum", str(len(promise.parts))]
    if isinstance(promise, Greatest):
        return ["greatest", str(len(promise.parts))]
    if isinstance(promise, Then):
        return ["then", str(promise.days)]
    if isinstance(promise, BestWalk):
        return ["walk", *machine_items(promise.machine), *[number_item(weight) for weight in promise.weights]]
    return ["best", str(promise.goods), *[str(count) for count in promise.counts]]


def promise_items(promise):
    """The items of the text of a promise."""
    items = head_items(promise)
    for part in parts_in(promise):
        items.extend(promise_items(part))
    return items


def promise_text(promise):
    """The text of a promise."""
    need_promise(promise, "promise")
    return " ".join(promise_items(promise))


class PromiseReader(Reader):
    """Keeps, beside the items, which goods were told first, and how many promises began."""

    def __init__(self, text):
        Reader.__init__(self, text)
        self.goods = None
        self.many = 0

    def take_goods(self):
        """The number of goods of the next item: the one that was told first."""
        goods = self.take_integer(1, MOST_GOODS)
        if self.goods is None:
            self.goods = goods
        if goods != self.goods:
            self.refuse_last()
        return goods


def take_hold(reader, level):
    """The items of a Hold behind its word."""
    goods = reader.take_goods()
    return Hold(goods, reader.take_integer(0, goods - 1))


def take_shares(reader, level):
    """The items of a Mix behind its word."""
    return Mix(take_mix(reader, reader.take_goods()))


def take_times(reader, level):
    """The items of a Times behind its word."""
    number = reader.take_from_0()
    return Times(number, take_promise(reader, level + 1))


def take_parts(reader, level):
    """How many parts there are, and these parts."""
    many = reader.take_integer(1, MOST_PARTS)
    return [take_promise(reader, level + 1) for _ in range(many)]


def take_sum(reader, level):
    """The items of a Sum behind its word."""
    return Sum(take_parts(reader, level))


def take_greatest(reader, level):
    """The items of a Greatest behind its word."""
    return Greatest(take_parts(reader, level))


def take_then(reader, level):
    """The items of a Then behind its word."""
    days = reader.take_integer(0, MOST_DAYS)
    first = take_promise(reader, level + 1)
    return Then(days, first, take_promise(reader, level + 1))


def take_walk(reader, level):
    """The items of a BestWalk behind its word."""
    many = reader.take_integer(1, MOST_STANDINGS)
    machine = take_machine(reader, many, reader.take_goods())
    return BestWalk(machine, [reader.take_from_0() for _ in range(many)])


def take_best(reader, level):
    """The items of a BestMix behind its word."""
    goods = reader.take_goods()
    return BestMix(goods, [reader.take_integer(0, MOST_COUNT) for _ in range(goods)])


TAKES = {
    "hold": take_hold, "mix": take_shares, "times": take_times, "sum": take_sum,
    "greatest": take_greatest, "then": take_then, "walk": take_walk, "best": take_best}


def take_promise(reader, level):
    """The promise of the next items, which is at this level, 1 being the whole."""
    word = reader.take_item()
    reader.many += 1
    if word not in TAKES or level > MOST_LEVELS or reader.many > MOST_PROMISES:
        reader.refuse_last()
    take = TAKES[word]
    return take(reader, level)


def read_promise(text):
    """The promise whose text it is."""
    reader = PromiseReader(text)
    promise = take_promise(reader, 1)
    reader.finish()
    return promise
