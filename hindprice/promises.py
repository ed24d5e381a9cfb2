"""Promises: the eight kinds."""

from hindprice.errors import BadMachine, BadNumber, BadPromise, TooMany
from hindprice.machines import Machine
from hindprice.needs import need_any_mix, need_days, need_from_0, need_goods, need_row, need_within
from hindprice.papers import fixed
from hindprice.shapes import is_integers, is_list_within

MOST_PARTS = 6
MOST_LEVELS = 6
MOST_PROMISES = 40
MOST_COUNT = 1000


class Promise:
    """The base of the eight kinds. It is not called itself."""

    def _measure(self, goods, parts):
        """Keep for how many goods it is, and what is counted from its parts."""
        self.goods = goods
        self.levels = 1 + max([part.levels for part in parts], default=0)
        self.many = 1 + sum([part.many for part in parts])


class Hold(Promise):
    """What a good has become."""

    def __init__(self, goods, good):
        need_goods(goods)
        need_within(good, 0, goods - 1, "good")
        self.good = good
        self._measure(goods, ())

    def __eq__(self, other):
        return isinstance(other, Hold) and self.goods == other.goods and self.good == other.good


class Mix(Promise):
    """What a mix has run to."""

    def __init__(self, shares):
        need_any_mix(shares, "shares")
        self.shares = fixed(shares)
        self._measure(len(shares), ())

    def __eq__(self, other):
        return isinstance(other, Mix) and self.shares == other.shares


class Times(Promise):
    """A number times what a part is worth."""

    def __init__(self, number, part):
        need_from_0(number, "number")
        need_promise(part, "part")
        self.number = fixed(number)
        self.part = part
        self._measure(part.goods, (part,))
        need_small(self)

    def __eq__(self, other):
        return isinstance(other, Times) and self.number == other.number and self.part == other.part


class Sum(Promise):
    """What its parts are worth together."""

    def __init__(self, parts):
        need_parts(parts)
        self.parts = fixed(parts)
        self._measure(parts[0].goods, parts)
        need_small(self)

    def __eq__(self, other):
        return isinstance(other, Sum) and self.parts == other.parts


class Greatest(Promise):
    """What the part is worth that is worth most."""

    def __init__(self, parts):
        need_parts(parts)
        self.parts = fixed(parts)
        self._measure(parts[0].goods, parts)
        need_small(self)

    def __eq__(self, other):
        return isinstance(other, Greatest) and self.parts == other.parts


class Then(Promise):
    """What first is worth at so many days, times what last is worth behind them."""

    def __init__(self, days, first, last):
        need_days(days)
        need_promise(first, "first")
        need_promise(last, "last")
        if last.goods != first.goods:
            raise BadPromise("last")
        self.days = days
        self.first = first
        self.last = last
        self._measure(first.goods, (first, last))
        need_small(self)

    def __eq__(self, other):
        return (isinstance(other, Then) and self.days == other.days
                and self.first == other.first and self.last == other.last)


class BestWalk(Promise):
    """What the best walk of a machine is worth by these weights."""

    def __init__(self, machine, weights):
        if not isinstance(machine, Machine):
            raise BadMachine("machine")
        need_row(weights, machine.many, "weights")
        self.machine = machine
        self.weights = fixed(weights)
        self._measure(machine.goods, ())

    def __eq__(self, other):
        return (isinstance(other, BestWalk) and self.machine == other.machine
                and self.weights == other.weights)


class BestMix(Promise):
    """What the best mix has run to, as seen afterwards, with these counts ahead."""

    def __init__(self, goods, counts):
        need_goods(goods)
        if not is_integers(counts, 0, MOST_COUNT) or len(counts) != goods:
            raise BadNumber("counts")
        self.counts = fixed(counts)
        self._measure(goods, ())

    def __eq__(self, other):
        return isinstance(other, BestMix) and self.counts == other.counts


def is_promise(value):
    """Whether any value is a promise of one of the eight kinds."""
    return isinstance(value, (Hold, Mix, Times, Sum, Greatest, Then, BestWalk, BestMix))


def need_promise(value, part):
    """A promise."""
    if not is_promise(value):
        raise BadPromise(part)


def need_parts(parts):
    """A list of 1 to 6 promises for as many goods."""
    if not is_list_within(parts, 1, MOST_PARTS):
        raise BadPromise("parts")
    if not all([is_promise(part) for part in parts]):
        raise BadPromise("parts")
    if not all([part.goods == parts[0].goods for part in parts]):
        raise BadPromise("parts")


def need_small(promise):
    """A promise that callers may make."""
    if promise.levels > MOST_LEVELS:
        raise TooMany("levels", MOST_LEVELS)
    if promise.many > MOST_PROMISES:
        raise TooMany("promises", MOST_PROMISES)


def parts_in(promise):
    """The parts of a promise; nothing is checked."""
    if isinstance(promise, Times):
        return (promise.part,)
    if isinstance(promise, (Sum, Greatest)):
        return promise.parts
    if isinstance(promise, Then):
        return (promise.first, promise.last)
    return ()


def parts_of(promise):
    """The parts of a promise, in the order of the parameters."""
    need_promise(promise, "promise")
    return parts_in(promise)


def all_in(promise):
    """All promises in a promise, each ahead of its parts."""
    need_promise(promise, "promise")
    found = []
    waiting = [promise]
    while len(waiting) > 0:
        part = waiting.pop()
        found.append(part)
        waiting.extend(parts_in(part)[::-1])
    return tuple(found)


def with_parts(promise, parts):
    """The promise with other parts for as many goods; nothing is checked."""
    if len(parts) == 0:
        return promise
    # It is made with small parts first: what is returned may have more levels
    # and promises in it than callers may make.
    small = Hold(promise.goods, 0)
    if isinstance(promise, Times):
        made = Times(promise.number, small)
        made.part = parts[0]
    elif isinstance(promise, Sum):
        made = Sum((small,))
        made.parts = tuple(parts)
    elif isinstance(promise, Greatest):
        made = Greatest((small,))
        made.parts = tuple(parts)
    else:
        made = Then(promise.days, small, small)
        made.first = parts[0]
        made.last = parts[1]
    made._measure(promise.goods, parts)
    return made


def times_of(number, part):
    """So many times a promise, whatever levels it has; nothing is checked."""
    return with_parts(Times(number, Hold(part.goods, 0)), (part,))


def then_of(days, first, last):
    """One promise behind another one, whatever levels they have; nothing is checked."""
    return with_parts(Then(days, Hold(first.goods, 0), Hold(first.goods, 0)), (first, last))


def best_of(counts):
    """The best mix behind these counts, however great; nothing is checked."""
    made = BestMix(len(counts), [0] * len(counts))
    made.counts = tuple(counts)
    return made
