"""Whether what papers tell of lots, or of loops, is so. The parts of papers may be any values."""

from hindprice.checks import is_list, is_within
from hindprice.shapes import is_list_within, is_mix_of
from hindprice.walks import is_walk_of, met


def is_tune(value, goods):
    """Whether any value is a tune of one mix or more, all of so many goods."""
    return is_list(value) and len(value) > 0 and all([is_mix_of(mix, goods) for mix in value])


def is_place(value, many, phases):
    """Whether any value is a pair of one of so many standings and one of so many phases."""
    return is_list_within(value, 2, 2) and is_within(value[0], 0, many - 1) and is_within(value[1], 0, phases - 1)


def is_lot(value, machine):
    """Whether any value is a tune, and a list of one place or more in it."""
    if not is_list_within(value, 2, 2) or not is_tune(value[0], machine.goods):
        return False
    tune, places = value
    return (is_list(places) and len(places) > 0
            and all([is_place(place, machine.many, len(tune)) for place in places]))


def is_steady_by(machine, weights, lots):
    """Whether a machine is steady by any value as its lots."""
    if not is_list(lots) or not all([is_lot(lot, machine) for lot in lots]):
        return False
    placed = [(standing, (at, phase)) for at, lot in enumerate(lots) for standing, phase in lot[1]]
    if sorted([pair[0] for pair in placed]) != list(met(machine, weights)):
        return False
    if not all([lots[at][0][phase] == machine.mixes[standing] for standing, (at, phase) in placed]):
        return False
    found = dict(placed)
    # From a standing that is met arrows lead to such alone.
    return all([leads_rightly(lots, found[begin], found[end]) for begin, end in machine.arrows if begin in found])


def leads_rightly(lots, begin, end):
    """Whether an arrow may lead from one lot and phase to another one."""
    at, phase = begin
    other, behind = end
    if at == other:
        return behind == (phase + 1) % len(lots[at][0])
    return at < other


def is_loop(machine, standing, value):
    """Whether any value is a loop at a standing."""
    if not is_walk_of(machine, value) or len(value) == 0:
        return False
    return value[0] == standing and (value[-1], standing) in machine.arrows


def is_way(machine, weights, value):
    """Whether any value is a way."""
    return is_walk_of(machine, value) and len(value) > 0 and weights[value[0]] != 0


def is_split_by(machine, weights, parts):
    """Whether a machine splits by any values as way, one, other and day."""
    way, one, other, day = parts
    if not is_way(machine, weights, way):
        return False
    if not is_loop(machine, way[-1], one) or not is_loop(machine, way[-1], other):
        return False
    if len(one) != len(other) or not is_within(day, 0, len(one) - 1):
        return False
    return machine.mixes[one[day]] != machine.mixes[other[day]]
