"""Machines: standings with mixes, and arrows from standing to standing."""

from hindprice.checks import is_list
from hindprice.errors import BadMachine
from hindprice.exact import is_less, sum_of
from hindprice.needs import need_within
from hindprice.papers import fixed
from hindprice.shapes import MOST_GOODS, is_any_mix, is_integers, is_list_within
from hindprice.texts import Reader, number_item

MOST_STANDINGS = 6


def are_mixes(value):
    """Whether any value is a list of 1 to 6 mixes of as many goods."""
    if not is_list_within(value, 1, MOST_STANDINGS):
        return False
    if not all([is_any_mix(mix) for mix in value]):
        return False
    return all([len(mix) == len(value[0]) for mix in value])


def is_arrow(value, many):
    """Whether any value is a pair of standings, of which there are so many."""
    return is_integers(value, 0, many - 1) and len(value) == 2


def leads_on(arrows, many):
    """Whether from each of so many standings some arrow leads."""
    begins = [arrow[0] for arrow in arrows]
    return all([standing in begins for standing in range(many)])


def are_arrows(value, many):
    """Whether any value is a list of unlike arrows that leads on from each standing."""
    if not is_list(value) or not all([is_arrow(arrow, many) for arrow in value]):
        return False
    pairs = [tuple(arrow) for arrow in value]
    return len(set(pairs)) == len(pairs) and leads_on(pairs, many)


class Machine:
    """Standings, each with its mix, and the arrows between them."""

    def __init__(self, mixes, arrows):
        if not are_mixes(mixes):
            raise BadMachine("mixes")
        if not are_arrows(arrows, len(mixes)):
            raise BadMachine("arrows")
        self.goods = len(mixes[0])
        self.many = len(mixes)
        self.mixes = fixed(mixes)
        self.arrows = tuple(sorted(fixed(arrows)))

    def __eq__(self, other):
        return isinstance(other, Machine) and self.mixes == other.mixes and self.arrows == other.arrows

    def __str__(self):
        return " ".join(machine_items(self))

    def nexts(self, standing):
        """The standings to which arrows lead from this one, ascending."""
        need_within(standing, 0, self.many - 1, "standing")
        return tuple([end for begin, end in self.arrows if begin == standing])

    @staticmethod
    def read(text):
        """The machine whose text it is."""
        reader = Reader(text)
        many = reader.take_integer(1, MOST_STANDINGS)
        machine = take_machine(reader, many, reader.take_integer(1, MOST_GOODS))
        reader.finish()
        return machine


def machine_items(machine):
    """The items of the text of a machine."""
    shares = [number_item(share) for mix in machine.mixes for share in mix]
    standings = [str(standing) for arrow in machine.arrows for standing in arrow]
    return [str(machine.many), str(machine.goods), *shares, str(len(machine.arrows)), *standings]


def take_machine(reader, many, goods):
    """The machine of the next items; its standings and goods were told before."""
    mixes = [take_mix(reader, goods) for _ in range(many)]
    return Machine(mixes, take_arrows(reader, many))


def take_mix(reader, goods):
    """The mix of the next items: none of its shares may lead beyond the sum 1."""
    shares = []
    for _ in range(goods):
        shares.append(reader.take_from_0())
        if is_less(1, sum_of(shares)):
            reader.refuse_last()
    if sum_of(shares) != 1:
        reader.refuse_last()
    return shares


def take_arrows(reader, many):
    """The arrows of the next items, as many as the first one tells, ascending."""
    arrows = []
    for _ in range(reader.take_integer(1, many * many)):
        least = arrows[-1] if len(arrows) > 0 else (0, -1)
        begin = reader.take_integer(least[0], many - 1)
        end = reader.take_integer(0, many - 1)
        if (begin, end) <= least:
            reader.refuse_last()
        arrows.append((begin, end))
    if not leads_on(arrows, many):
        reader.refuse_last()
    return arrows
