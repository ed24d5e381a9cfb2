"""How walks come back to where they were, and what tunes they have then: nothing is checked here.

Standings, and pairs of them, are states; an onward tells for each state those to which it leads.
"""

from math import gcd

from hindprice.walks import begins_of, met


def ways_from(starts, onward):
    """For each state that is come to from some, in the order found, the one ahead of it on a shortest way."""
    ahead = {state: None for state in starts}
    waiting = list(starts)
    while len(waiting) > 0:
        found = []
        for state in waiting:
            for other in onward[state]:
                if other not in ahead:
                    ahead[other] = state
                    found.append(other)
        waiting = found
    return ahead


def way_to(ahead, state):
    """The way on which a state is come to."""
    way = []
    while state is not None:
        way.append(state)
        state = ahead[state]
    return tuple(way[::-1])


def onward_of(machine):
    """To which standings each standing leads."""
    return {standing: machine.nexts(standing) for standing in range(machine.many)}


def both_onward(onward):
    """To which pairs each pair of standings leads, if two walks go on at once."""
    return {(one, other): [(end, last) for end in onward[one] for last in onward[other]]
            for one in onward for other in onward}


def unlike_loops(machine, standing, pairs):
    """Two loops of as many steps at a standing, and a day at which their mixes are unlike; None without such."""
    begin = (standing, standing)
    ahead = ways_from([begin], pairs)
    for one, other in ahead:
        if machine.mixes[one] != machine.mixes[other]:
            back = ways_from([(one, other)], pairs)
            if begin in back:
                there = way_to(ahead, (one, other))
                both = [*there, *way_to(back, begin)[1:-1]]
                return ([pair[0] for pair in both], [pair[1] for pair in both], len(there) - 1)
    return None


def split_of(machine, weights):
    """The parts of a Splits for the first standing met that has such loops, None without one."""
    onward = onward_of(machine)
    pairs = both_onward(onward)
    for standing in met(machine, weights):
        found = unlike_loops(machine, standing, pairs)
        if found is not None:
            one, other, day = found
            return (way_to(ways_from(begins_of(weights), onward), standing), one, other, day)
    return None


def rounds_of(machine, weights):
    """The standings met, those together that come to one another, none behind one to which it leads."""
    onward = onward_of(machine)
    come_to = {standing: ways_from([standing], onward) for standing in met(machine, weights)}
    # Whoever leads to others, but is not come to from them, comes to more than they do.
    placed = sorted([(-len(come_to[standing]), standing) for standing in come_to])
    found = []
    for _, standing in placed:
        if not any([standing in others for others in found]):
            found.append([other for other in come_to if other in come_to[standing] and standing in come_to[other]])
    return found


def steps_to(machine, standings):
    """How many steps lead from the first of these standings to each of them, on a shortest way."""
    ahead = ways_from(standings[:1], onward_of(machine))
    return {standing: len(way_to(ahead, standing)) - 1 for standing in standings}


def common_round(machine, steps):
    """The greatest length of which all loops among these standings are multiples, 1 without loops."""
    length = 0
    for begin, end in machine.arrows:
        if begin in steps and end in steps:
            length = gcd(length, steps[begin] + 1 - steps[end])
    return max(1, length)


def least_round(tune):
    """The beginning of a tune that makes the whole, said again and again: the least one."""
    for length in range(1, len(tune)):
        if len(tune) % length == 0 and tune[:length] * (len(tune) // length) == tune:
            return tune[:length]
    return tune


def lot_of(machine, standings):
    """The tune of standings that come to one another, and their phases; no loops of theirs are unlike."""
    steps = steps_to(machine, standings)
    length = common_round(machine, steps)
    mixes = {steps[standing] % length: machine.mixes[standing] for standing in standings}
    tune = least_round([mixes[phase] for phase in range(length)])
    return (tune, [(standing, steps[standing] % len(tune)) for standing in standings])


def lots_of(machine, weights):
    """The lots by which a machine is steady that does not split."""
    return [lot_of(machine, standings) for standings in rounds_of(machine, weights)]
