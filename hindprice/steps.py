"""How the weights of a machine go on from day to day: nothing is checked here.

All is reckoned in integers: where many numbers are over one bottom, it is not
needed to tell which one is greater.
"""

from hindprice.exact import levelled, over


def shares_of(machine):
    """The tops of the shares of each standing, over one bottom for all, and this bottom."""
    tops, bottom = levelled([share for mix in machine.mixes for share in mix])
    goods = machine.goods
    return ([tops[at * goods:(at + 1) * goods] for at in range(machine.many)], bottom)


def pays_of(rows, numbers):
    """What each standing is paid, by the tops of its shares and those of a day."""
    return [sum([share * number for share, number in zip(row, numbers)]) for row in rows]


def begins_to(machine):
    """For each standing those from which arrows lead to it."""
    return [[begin for begin, end in machine.arrows if end == standing] for standing in range(machine.many)]


def paid_to(weights, pays):
    """The weights of standings, each times what the standing is paid."""
    return [weight * pay for weight, pay in zip(weights, pays)]


def carried(begins, made):
    """For each standing the greatest that an arrow brings to it, 0 without one."""
    return [max([made[begin] for begin in those], default=0) for those in begins]


def carried_over(machine, weights, market):
    """The weights behind a market, as tops over one bottom, and this bottom."""
    rows, low = shares_of(machine)
    weights, bottom = levelled(weights)
    begins = begins_to(machine)
    for day in market:
        numbers, under = levelled(day)
        weights = carried(begins, paid_to(weights, pays_of(rows, numbers)))
        bottom = bottom * low * under
    return (weights, bottom)


def weights_behind(machine, weights, day):
    """The weights of what is left of a best walk behind a day."""
    tops, bottom = carried_over(machine, weights, [day])
    return [over(top, bottom) for top in tops]


def walk_worth_of(machine, weights, market):
    """What the best walk over a market is worth by these weights."""
    # An arrow leads on from each standing, so nothing of the last day is lost.
    tops, bottom = carried_over(machine, weights, market)
    return over(max(tops), bottom)
