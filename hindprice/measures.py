"""The worths at all words, ascending, laid one behind another: how long each is, and where it lies.

Nothing is checked here. All is measured in units so small that mostly it is told
by how many of them there are at least, and at most; where it is not, it is
reckoned out.
"""

from hindprice.strands import words_account_of
from hindprice.tables import word_table

# So many bits more than the longest code has are measured.
MORE_BITS = 64


def size_of(near):
    """How many bits stand ahead of the point, or, if below 0, how many are 0 behind it, of an about above 0."""
    low, up = near
    return low.bit_length() + up


def least_doublings(whole, part):
    """The least k from 0 on for which 2 to the k times the part is at least the whole."""
    return (-(-whole // part) - 1).bit_length()


def code_length(whole, part):
    """How many signs the code of a part has."""
    return 1 + least_doublings(whole, part)


def figures_at(whole, ahead, part, length):
    """The first so many figures of the middle of a part with so much ahead of it, as an integer."""
    return ((2 * ahead + part) << length) // (2 * whole)


class Measure:
    """The worths of a promise at all words of so many goods."""

    def __init__(self, promise, days):
        self.table = word_table(promise, days)
        self.bottoms = None
        self.strands = []
        self.top_of_all = 0
        self.reached = 0
        self.ahead = []
        self.bits = self._bits_of_a_unit()
        # Of each worth, and of all that lie ahead, the units at least, and how many more at most.
        self.leasts = []
        self.slacks = []
        self.starts = [0]
        self.behinds = [0]
        for place in range(len(self.table.abouts)):
            least, slack = self._units(place)
            self.leasts.append(least)
            self.slacks.append(slack)
            self.starts.append(self.starts[-1] + least)
            self.behinds.append(self.behinds[-1] + slack)

    def _bits_of_a_unit(self):
        """How many bits behind the point are measured."""
        worths = [near for near in self.table.abouts if near[0] > 0]
        if len(worths) == 0:
            return 0
        least = min([size_of(near) for near in worths])
        return max(0, MORE_BITS + len(worths).bit_length() - least)

    def _units(self, place):
        """The units of a worth at least, and how many more at most."""
        parts = [divmod(top << self.bits, bottom) for top, bottom in self.table.pieces(place)]
        return (sum([part[0] for part in parts]), len([part for part in parts if part[1] > 0]))

    def is_nothing(self):
        """Whether all worths are 0."""
        return not any([near[0] > 0 for near in self.table.abouts])

    def has_worth(self, place):
        """Whether the worth at a place is above 0."""
        return self.table.abouts[place][0] > 0

    def _go_to(self, place):
        """Add up what lies ahead of a place: mostly places are asked for one behind another."""
        if self.bottoms is None:
            account = words_account_of(self.table, 1)
            self.bottoms = account.bottoms
            self.strands = account.strands
            self.top_of_all = self.bottoms.sum_of_tops([sum(list(strand.values())) for strand in self.strands])
        if self.reached == 0 or place < self.reached:
            self.reached = 0
            self.ahead = [0] * len(self.strands)
        for at in range(self.reached, place):
            self.ahead = [top + strand.get(at, 0) for top, strand in zip(self.ahead, self.strands)]
        self.reached = place

    def _reckoned(self, place):
        """All worths together, those ahead of a place, and that at the place, over one bottom."""
        self._go_to(place)
        parts = [strand.get(place, 0) for strand in self.strands]
        return (self.top_of_all, self.bottoms.sum_of_tops(self.ahead), self.bottoms.sum_of_tops(parts))

    def code(self, place):
        """The code of the word at a place that has one."""
        least = self.starts[-1]
        most = least + self.behinds[-1]
        part = self.leasts[place]
        slack = self.slacks[place]
        length = code_length(most, part)
        if code_length(least, part + slack) == length:
            low = figures_at(most, self.starts[place], part, length)
            if low == figures_at(least, self.starts[place] + self.behinds[place], part + slack, length):
                return code_text(low, length)
        whole, ahead, part = self._reckoned(place)
        length = code_length(whole, part)
        return code_text(figures_at(whole, ahead, part, length), length)

    def lags(self, place, length):
        """Whether 2 to the length, times the worth at a place, is at least all worths together."""
        least = self.starts[-1]
        part = self.leasts[place]
        if part << length >= least + self.behinds[-1]:
            return True
        if (part + self.slacks[place]) << length < least:
            return False
        whole, _, part = self._reckoned(place)
        return part << length >= whole


def code_text(figures, length):
    """So many figures, of which an integer tells the last ones."""
    return f"{figures:b}".zfill(length)
