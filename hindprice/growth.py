"""How the price of a best walk grows: by a power of the days at most, or from lap to lap."""

from math import comb

from hindprice.errors import BadPromise, Misfit
from hindprice.exact import greatest_of, power_of, product_of, sum_of
from hindprice.laps import is_split_by, is_steady_by
from hindprice.needs import need_within
from hindprice.papers import Denial, Paper
from hindprice.promises import BestWalk
from hindprice.rounds import lots_of, split_of
from hindprice.walks import begins_of, ends_behind

MOST_TUNED_DAYS = 60
MOST_LAPS = 60


class Steady(Paper):
    """The lots by which a promise is steady."""

    def __init__(self, lots):
        Paper.__init__(self, "steady", lots)
        self.lots = self.parts[0]


class Splits(Denial):
    """A way to two loops of as many steps, and a day at which their mixes are unlike."""

    def __init__(self, way, one, other, day):
        Denial.__init__(self, "splits", way, one, other, day)
        self.way, self.one, self.other, self.day = self.parts


def need_walk(promise):
    """A best walk."""
    if not isinstance(promise, BestWalk):
        raise BadPromise("promise")


def judged_growth(promise):
    """A Steady by which a promise is steady, or a Splits by which it splits."""
    need_walk(promise)
    found = split_of(promise.machine, promise.weights)
    if found is None:
        return Steady(lots_of(promise.machine, promise.weights))
    return Splits(*found)


def is_steady(promise, value):
    """Whether any value is a Steady by which a promise is steady."""
    if not isinstance(value, Steady) or value.__class__.__name__ != "Steady":
        return False
    return is_steady_by(promise.machine, promise.weights, value.lots)


def is_split(promise, value):
    """Whether any value is a Splits by which a promise splits."""
    if not isinstance(value, Splits) or value.__class__.__name__ != "Splits":
        return False
    return is_split_by(promise.machine, promise.weights, (value.way, value.one, value.other, value.day))


def by_mixes(machine, standings):
    """Some standings, those with the same mix together."""
    found = {}
    for standing in standings:
        found.setdefault(machine.mixes.index(machine.mixes[standing]), []).append(standing)
    return list(found.values())


def tunes_of(promise, days):
    """How many unlike tunes walks of so many standings have that begin with a weight above 0."""
    need_walk(promise)
    need_within(days, 0, MOST_TUNED_DAYS, "days")
    begins = begins_of(promise.weights)
    if len(begins) == 0:
        return 0
    machine = promise.machine
    # A tune is told by the standings to which all walks with it may go on.
    many = {tuple(begins): 1}
    for _ in range(days):
        onward = {}
        for standings in many:
            for alike in by_mixes(machine, standings):
                ends = tuple(ends_behind(machine, alike))
                onward[ends] = onward.get(ends, 0) + many[standings]
        many = onward
    return sum([many[standings] for standings in many])


def steady_most(promise, value, days):
    """How many tunes there are at most by a Steady by which a promise is steady."""
    need_walk(promise)
    need_within(days, 0, MOST_TUNED_DAYS, "days")
    if not is_steady(promise, value):
        raise Misfit("value")
    many = len(value.lots)
    if many == 0:
        return 0
    return comb(days + many - 1, many - 1) * product_of([len(tune) for tune, _ in value.lots])


def need_split(promise, value):
    """A Splits by which a promise splits."""
    if not is_split(promise, value):
        raise Misfit("value")


def factor_of(promise, value):
    """The factor of a lap of a Splits."""
    mixes = promise.machine.mixes
    one = mixes[value.one[value.day]]
    other = mixes[value.other[value.day]]
    return sum_of([greatest_of([share, more]) for share, more in zip(one, other)])


def lap_factor(promise, value):
    """The factor of a lap of a Splits by which a promise splits."""
    need_walk(promise)
    need_split(promise, value)
    return factor_of(promise, value)


def lap_floor(promise, value, laps):
    """What the price is at least behind so many laps of a Splits by which a promise splits."""
    need_walk(promise)
    need_within(laps, 0, MOST_LAPS, "laps")
    need_split(promise, value)
    return product_of([promise.weights[value.way[0]], power_of(factor_of(promise, value), laps)])
