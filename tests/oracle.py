"""What promises are worth by the words of the document alone, gone through one by one, and some promises."""

import itertools
import math
from fractions import Fraction

from hindprice.machines import Machine
from hindprice.promises import BestMix, BestWalk, Greatest, Hold, Mix, Sum, Then, Times, all_in
from tests.support import fraction, told


def walks(machine, days):
    """All walks of so many standings, ascending."""
    return [walk for walk in itertools.product(range(machine.many), repeat=days)
            if all(arrow in machine.arrows for arrow in zip(walk, walk[1:]))]


def paid(shares, day):
    return sum(fraction(share) * fraction(number) for share, number in zip(shares, day))


def walk_worth(machine, weights, walk, market):
    if not market:
        return max(map(fraction, weights))
    return fraction(weights[walk[0]]) * math.prod(paid(machine.mixes[at], day) for at, day in zip(walk, market))


def worth(promise, market):
    """The worth at a market of a promise without a best mix."""
    if isinstance(promise, Hold):
        return math.prod((fraction(day[promise.good]) for day in market), start=Fraction(1))
    if isinstance(promise, Mix):
        return math.prod((paid(promise.shares, day) for day in market), start=Fraction(1))
    if isinstance(promise, BestWalk):
        return max(walk_worth(promise.machine, promise.weights, walk, market)
                   for walk in walks(promise.machine, len(market)))
    return put_together(promise, market, worth)


def put_together(promise, days, tell):
    if isinstance(promise, Times):
        return fraction(promise.number) * tell(promise.part, days)
    if isinstance(promise, Sum):
        return sum(tell(part, days) for part in promise.parts)
    if isinstance(promise, Greatest):
        return max(tell(part, days) for part in promise.parts)
    return tell(promise.first, days[:promise.days]) * tell(promise.last, days[promise.days:])


def lightnings(goods, word):
    return [tuple(int(at == good) for at in range(goods)) for good in word]


def worth_at(promise, word):
    """The worth at a word of any promise."""
    if isinstance(promise, BestMix):
        counts = [promise.counts[good] + list(word).count(good) for good in range(promise.goods)]
        return math.prod((Fraction(count, sum(counts)) ** count for count in counts if count), start=Fraction(1))
    if isinstance(promise, (Hold, Mix, BestWalk)):
        return worth(promise, lightnings(promise.goods, word))
    return put_together(promise, word, worth_at)


def words(goods, days):
    return list(itertools.product(range(goods), repeat=days))


def rest(promise, days, word):
    return sum(worth_at(promise, (*word, *more)) for more in words(promise.goods, days - len(word)))


def price(promise, days):
    return rest(promise, days, ())


def weight(market, word):
    return math.prod((fraction(day[good]) for day, good in zip(market, word)), start=Fraction(1))


def purse(promise, days, market):
    """The purse of the book behind a market."""
    return sum(weight(market, word) * rest(promise, days, word) for word in words(promise.goods, len(market)))


def amounts(promise, days, market):
    """What lies on each good for the next day."""
    return [sum(weight(market, word) * rest(promise, days, (*word, good))
                for word in words(promise.goods, len(market))) for good in range(promise.goods)]


def is_told_at_once(promise):
    """Whether nothing has to be gone through for the price."""
    return not any(isinstance(part, (Greatest, BestMix, BestWalk)) for part in all_in(promise))


# By chance, but each time the same: the tests pass a random.Random with a seed of their own.

def some_number(chance, most=4):
    return told(Fraction(chance.randint(0, most), chance.choice((1, 1, 2, 3))))


def some_mix(chance, goods):
    parts = [chance.choice((0, 1, 1, 2)) for _ in range(goods)]
    parts[chance.randrange(goods)] += 1
    return tuple(told(Fraction(part, sum(parts))) for part in parts)


def some_machine(chance, goods, most=3):
    many = chance.randint(1, most)
    arrows = {(begin, chance.randrange(many)) for begin in range(many)}
    arrows |= {(chance.randrange(many), chance.randrange(many)) for _ in range(many)}
    return Machine([some_mix(chance, goods) for _ in range(many)], sorted(arrows))


def some_walk(chance, goods):
    machine = some_machine(chance, goods)
    return BestWalk(machine, [some_number(chance) for _ in range(machine.many)])


def some_day(chance, goods):
    return tuple(some_number(chance) for _ in range(goods))


def some_market(chance, goods, days):
    return tuple(some_day(chance, goods) for _ in range(days))


def some_word(chance, goods, days):
    return tuple(chance.randrange(goods) for _ in range(days))


def some_promise(chance, goods, levels=4, best=True, orderless=False):
    """A promise of at most so many levels; best mixes and what has an order only if they are let."""
    leaves = ["hold", "mix"] + ["best"] * best + ["walk"] * (not orderless)
    kind = chance.choice(leaves if levels == 1 else leaves + ["times", "sum", "sum", "greatest", "greatest"]
                         + ["then"] * 2 * (not orderless))
    part = lambda: some_promise(chance, goods, levels - 1, best, orderless)
    if kind == "hold":
        return Hold(goods, chance.randrange(goods))
    if kind == "mix":
        return Mix(some_mix(chance, goods))
    if kind == "best":
        return BestMix(goods, [chance.randint(0, 3) for _ in range(goods)])
    if kind == "walk":
        return some_walk(chance, goods)
    if kind == "times":
        return Times(some_number(chance), part())
    if kind == "then":
        return Then(chance.randint(0, 3), part(), part())
    return (Sum if kind == "sum" else Greatest)([part() for _ in range(chance.randint(1, 3))])
