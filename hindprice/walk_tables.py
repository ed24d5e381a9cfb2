"""The worths of a best walk at all words, ascending: nothing is checked here.

Each word is cut in two. What may be brought to each standing by its first half,
and made from there by its last half, is told for the few halves; so of a whole
word only that of one standing needs to be multiplied out, and only if it is asked for.

What is brought, or made, is a row (top, over, under): a top over a bottom that is
the same in all rows, and the same number over a bottom of its own, mostly a far shorter one.
"""

from hindprice.abouts import KEPT, about, about_product
from hindprice.exact import bottom_of, integer_power, levelled, top_of
from hindprice.steps import begins_to, shares_of

NOTHING_BROUGHT = (0, 0, 1)


def rows_of_shares(machine):
    """For each good the rows of the shares that the standings have of it, and the common bottom."""
    tops, bottom = shares_of(machine)
    return ([[(tops[at][good], top_of(mix[good]), bottom_of(mix[good])) for at, mix in enumerate(machine.mixes)]
             for good in range(machine.goods)], bottom)


def paid_rows(rows, pays):
    """What each standing has, times what it is paid."""
    return [(top * more, over * share, under * low)
            for (top, over, under), (more, share, low) in zip(rows, pays)]


def brought(begins, rows):
    """For each standing the greatest that an arrow brings to it."""
    return [max([rows[begin] for begin in those], default=NOTHING_BROUGHT) for those in begins]


def first_halves(promise, pays, tops, days):
    """For each word of so many goods what it brings to each standing; tops are those of the weights."""
    begins = begins_to(promise.machine)
    halves = [[(top, top_of(weight), bottom_of(weight)) for top, weight in zip(tops, promise.weights)]]
    for _ in range(days):
        halves = [brought(begins, paid_rows(rows, row)) for rows in halves for row in pays]
    return halves


def last_halves(machine, pays, days):
    """For each word of so many goods what is made from each standing on."""
    onward = [machine.nexts(standing) for standing in range(machine.many)]
    halves = [[(1, 1, 1)] * machine.many]
    for _ in range(days):
        # As arrows lead on, nothing is lost behind the last good.
        carried = [brought(onward, rows) for rows in halves]
        halves = [paid_rows(rows, row) for row in pays for rows in carried]
    return halves


def cut_tops(rows):
    """The first bits of the tops of some rows, as many cut off all of them, and how many."""
    tops = [top for top, _, _ in rows]
    up = max(0, max(tops).bit_length() - KEPT)
    return ([top >> up for top in tops], up)


class WalkTable:
    """The table of a best walk: what was cut off a product is looked at only where it may tell."""

    def __init__(self, promise, days):
        machine = promise.machine
        tops, low = levelled(promise.weights)
        pays, under = rows_of_shares(machine)
        self.firsts = first_halves(promise, pays, tops, days // 2)
        self.lasts = last_halves(machine, pays, days - days // 2)
        self.low = low
        self.under = under
        self.bottom = low * integer_power(under, days)
        self.picks = []
        self.abouts = []
        # What was cut off two factors is less than slack in their product; from
        # much on this is so little of it that its about may be told by it.
        self.slack = 1 << (KEPT + 2)
        self.much = 1 << (2 * KEPT - 40)
        inverse = about(1, self.bottom)
        lasts = [cut_tops(rows) for rows in self.lasts]
        for rows in self.firsts:
            cut_rows, up = cut_tops(rows)
            for cut_lasts, above in lasts:
                made = [one * other for one, other in zip(cut_rows, cut_lasts)]
                self._pick(made, up, above, inverse)

    def _pick(self, made, up, above, inverse):
        """The standing by which the next word is worth most, by the products of what was not cut off."""
        most = max(made)
        pick = made.index(most)
        place = len(self.picks)
        self.picks.append(pick)
        if up + above > 0:
            near = [at for at, product in enumerate(made) if product + self.slack > most]
            if len(near) > 1:
                self.picks[place] = self._greatest_of(place, near)
            if most < self.much:
                self.abouts.append(about(self._top(place), self.bottom))
                return
        self.abouts.append(about_product((most, up + above), inverse))

    def _rows(self, place, standing):
        """What the two halves of a word have at a standing."""
        many = len(self.lasts)
        return (self.firsts[place // many][standing], self.lasts[place % many][standing])

    def _greatest_of(self, place, standings):
        """The first one of some standings by which a word is worth most."""
        best = standings[0]
        here, there = self._rows(place, best)
        for standing in standings[1:]:
            one, other = self._rows(place, standing)
            # Standings that are alike are not multiplied out.
            if (one[0], other[0]) != (here[0], there[0]) and one[0] * other[0] > here[0] * there[0]:
                best = standing
                here = one
                there = other
        return best

    def _top(self, place):
        """The worth at a word over the common bottom."""
        one, other = self._rows(place, self.picks[place])
        return one[0] * other[0]

    def pieces(self, place):
        """The worth at a word, over a bottom of its own."""
        one, other = self._rows(place, self.picks[place])
        return [(one[1] * other[1], one[2] * other[2])]

    def terms(self, place):
        """The worth at a word as a sum over few bottoms."""
        return [(self._top(place), self.bottom)]

    def bases(self):
        """Integers that have all primes of the bottom."""
        return [self.low, self.under]
