"""Tables: the worths of a promise at all places, which are all counts, or all words, ascending.

Nothing is checked here. A table has the abouts of the worths, by which most are
told apart. Its pieces(place) are pairs (top, bottom), which need not be in their
one form, whose sum is the worth. Its terms(place) are such pairs, too, but over
few bottoms in the whole table, however great, so that many of them are soon added;
all primes of these bottoms are in its bases().
"""

from hindprice.abouts import about, about_product, about_sum, is_surely_lower
from hindprice.exact import added, bottom_of, integer_power, levelled, top_of
from hindprice.promises import BestMix, BestWalk, Hold, Mix, Sum, Then, Times, all_in
from hindprice.walk_tables import WalkTable
from hindprice.words import all_counts


class ProductTable:
    """At counts the product, over all goods, of what the row of a good has for its count, over a base so many times."""

    def __init__(self, rows, base, many, places):
        self.rows = rows
        self.base = base
        self.bottom = integer_power(base, many)
        self.places = places
        inverse = about(1, self.bottom)
        near = [[about(top, 1) for top in row] for row in rows]
        self.abouts = []
        for counts in places:
            here = inverse
            for row, count in zip(near, counts):
                here = about_product(here, row[count])
            self.abouts.append(here)

    def pieces(self, place):
        """The worth at a place as a sum."""
        top = 1
        for row, count in zip(self.rows, self.places[place]):
            top = top * row[count]
        return [(top, self.bottom)]

    def terms(self, place):
        """The worth at a place as a sum over few bottoms."""
        return self.pieces(place)

    def bases(self):
        """Integers that have all primes of the bottoms of terms."""
        return [self.base]


class SpreadTable:
    """At each place the worth that a table has at another place."""

    def __init__(self, part, places):
        self.part = part
        self.places = places
        self.abouts = [part.abouts[place] for place in places]
        self.known = {}

    def pieces(self, place):
        """The worth at a place as a sum."""
        return self.part.pieces(self.places[place])

    def terms(self, place):
        """The worth at a place as a sum over few bottoms."""
        # Many words have the same counts.
        at = self.places[place]
        if at not in self.known:
            self.known[at] = self.part.terms(at)
        return self.known[at]

    def bases(self):
        """Integers that have all primes of the bottoms of terms."""
        return self.part.bases()


class TimesTable:
    """So many times a table."""

    def __init__(self, number, part):
        self.top = top_of(number)
        self.bottom = bottom_of(number)
        self.part = part
        near = about(self.top, self.bottom)
        self.abouts = [about_product(near, other) for other in part.abouts]

    def pieces(self, place):
        """The worth at a place as a sum."""
        return [(top * self.top, bottom * self.bottom) for top, bottom in self.part.pieces(place)]

    def terms(self, place):
        """The worth at a place as a sum over few bottoms."""
        return [(top * self.top, bottom * self.bottom) for top, bottom in self.part.terms(place)]

    def bases(self):
        """Integers that have all primes of the bottoms of terms."""
        return [self.bottom, *self.part.bases()]


class SumTable:
    """Some tables together."""

    def __init__(self, parts):
        self.parts = parts
        self.abouts = parts[0].abouts
        for part in parts[1:]:
            self.abouts = [about_sum(one, other) for one, other in zip(self.abouts, part.abouts)]

    def pieces(self, place):
        """The worth at a place as a sum."""
        return [piece for part in self.parts for piece in part.pieces(place)]

    def terms(self, place):
        """The worth at a place as a sum over few bottoms."""
        return [term for part in self.parts for term in part.terms(place)]

    def bases(self):
        """Integers that have all primes of the bottoms of terms."""
        return [base for part in self.parts for base in part.bases()]


class PickedTable:
    """At each place the worth of one of some tables."""

    def __init__(self, parts, picks):
        self.parts = parts
        self.picks = picks
        self.abouts = [parts[pick].abouts[place] for place, pick in enumerate(picks)]

    def pieces(self, place):
        """The worth at a place as a sum."""
        return self.parts[self.picks[place]].pieces(place)

    def terms(self, place):
        """The worth at a place as a sum over few bottoms."""
        return self.parts[self.picks[place]].terms(place)

    def bases(self):
        """Integers that have all primes of the bottoms of terms."""
        return [base for part in self.parts for base in part.bases()]


class KnownTerms:
    """The terms of a table, each place asked once."""

    def __init__(self, table):
        self.table = table
        self.known = {}
        self.together = {}
        self.levels = {}

    def several(self, place):
        """The terms at a place."""
        if place not in self.known:
            self.known[place] = self.table.terms(place)
        return self.known[place]

    def as_one(self, place):
        """The terms at a place put together to one."""
        if place not in self.together:
            terms = self.several(place)
            bottoms = tuple([bottom for _, bottom in terms])
            if bottoms not in self.levels:
                self.levels[bottoms] = levelled([(1, bottom) for bottom in bottoms])
            more, common = self.levels[bottoms]
            self.together[place] = [(sum([top * times for (top, _), times in zip(terms, more)]), common)]
        return self.together[place]


class ThenTable:
    """One table at the first goods of the words, times another one at those behind them."""

    def __init__(self, first, last):
        self.first = first
        self.last = last
        self.abouts = [about_product(one, other) for one in first.abouts for other in last.abouts]
        self.firsts = KnownTerms(first)
        self.lasts = KnownTerms(last)

    def pieces(self, place):
        """The worth at a place as a sum."""
        many = len(self.last.abouts)
        top, bottom = added(self.first.pieces(place // many))
        more, low = added(self.last.pieces(place % many))
        return [(top * more, bottom * low)]

    def terms(self, place):
        """The worth at a place as a sum over few bottoms."""
        many = len(self.last.abouts)
        ahead = self.firsts.several(place // many)
        behind = self.lasts.several(place % many)
        if len(ahead) > 1 and len(behind) > 1:
            ahead = self.firsts.as_one(place // many)
            behind = self.lasts.as_one(place % many)
        return [(top * more, bottom * low) for top, bottom in ahead for more, low in behind]

    def bases(self):
        """Integers that have all primes of the bottoms of terms."""
        return [*self.first.bases(), *self.last.bases()]


def is_lower_at(one, place, other, spot):
    """Whether one table has less at a place than another one at another place."""
    here = one.abouts[place]
    there = other.abouts[spot]
    if is_surely_lower(here, there) or is_surely_lower(there, here):
        return is_surely_lower(here, there)
    pieces, others = without_common(one.pieces(place), other.pieces(spot))
    return is_lower(added(pieces), added(others))


def is_above(table, place, number):
    """Whether a table has more at a place than a number that is told as a pair."""
    near = about(number[0], number[1])
    here = table.abouts[place]
    if is_surely_lower(near, here) or is_surely_lower(here, near):
        return is_surely_lower(near, here)
    return is_lower(number, added(table.pieces(place)))


def without_common(pieces, others):
    """The pieces of two sums without those that both of them have."""
    kept = []
    left = list(others)
    for piece in pieces:
        if piece in left:
            left.remove(piece)
        else:
            kept.append(piece)
    return (kept, left)


def is_lower(one, other):
    """Whether one pair is less than another one; both are from 0 on."""
    top, bottom = one
    more, low = other
    if bottom == low or top == 0 or more == 0:
        return top < more
    return top * low < more * bottom


def greater_table(parts):
    """At each place the first one of the greatest worths of some tables."""
    picks = [0] * len(parts[0].abouts)
    for at in range(1, len(parts)):
        picks = [at if is_lower_at(parts[pick], place, parts[at], place) else pick for place, pick in enumerate(picks)]
    return PickedTable(parts, picks)


def lesser_table(one, other):
    """At each place the lesser worth of two tables."""
    picks = [1 if is_lower_at(other, place, one, place) else 0 for place in range(len(one.abouts))]
    return PickedTable([one, other], picks)


def greatest_place(table):
    """The first place at which a table has its greatest worth."""
    best = 0
    for place in range(1, len(table.abouts)):
        if is_lower_at(table, best, table, place):
            best = place
    return best


def unlike(parts):
    """The parts without those that are equal to one ahead of them."""
    found = []
    for part in parts:
        if part not in found:
            found.append(part)
    return found


def put_together(promise, tell):
    """The table of a Times, a Sum or a Greatest; tell gives those of its parts."""
    if isinstance(promise, Times):
        return TimesTable(promise.number, tell(promise.part))
    if isinstance(promise, Sum):
        return SumTable([tell(part) for part in promise.parts])
    return greater_table([tell(part) for part in unlike(promise.parts)])


def is_without_order(promise):
    """Whether no Then and no BestWalk is in a promise."""
    return not any([isinstance(part, (Then, BestWalk)) for part in all_in(promise)])


def powers_of(top, days):
    """All powers of an integer up to that of so many days."""
    row = [1]
    for _ in range(days):
        row.append(row[-1] * top)
    return row


def mix_table(shares, days, places):
    """The table of a Mix at all counts."""
    tops, bottom = levelled(shares)
    return ProductTable([powers_of(top, days) for top in tops], bottom, days, places)


def best_table(begun, days, places):
    """The table of a BestMix with these counts at first, at all counts."""
    rows = [[integer_power(count, count) for count in range(first, first + days + 1)] for first in begun]
    many = sum(begun) + days
    # Without any counts it is 1 over 1.
    return ProductTable(rows, max(1, many), many, places)


def count_table_at(promise, days, places):
    """The table of an orderless promise at these counts, which are all for so many days."""
    if isinstance(promise, Hold):
        shares = [1 if good == promise.good else 0 for good in range(promise.goods)]
        return mix_table(shares, days, places)
    if isinstance(promise, Mix):
        return mix_table(promise.shares, days, places)
    if isinstance(promise, BestMix):
        return best_table(promise.counts, days, places)
    return put_together(promise, lambda part: count_table_at(part, days, places))


def count_table(promise, days):
    """The table of an orderless promise at all counts with the sum days."""
    return count_table_at(promise, days, all_counts(promise.goods, days))


def counted_more(counts, good):
    """The counts with one more for a good."""
    return (*counts[:good], counts[good] + 1, *counts[good + 1:])


def spread_out(promise, days):
    """The table of an orderless promise at all words of so many goods."""
    known = {counts: place for place, counts in enumerate(all_counts(promise.goods, days))}
    counted = [(0,) * promise.goods]
    for _ in range(days):
        counted = [counted_more(counts, good) for counts in counted for good in range(promise.goods)]
    return SpreadTable(count_table(promise, days), [known[counts] for counts in counted])


def word_table(promise, days):
    """The table of a promise at all words of so many goods."""
    if is_without_order(promise):
        return spread_out(promise, days)
    if isinstance(promise, Then):
        ahead = min(days, promise.days)
        return ThenTable(word_table(promise.first, ahead), word_table(promise.last, days - ahead))
    if isinstance(promise, BestWalk):
        return WalkTable(promise, days)
    return put_together(promise, lambda part: word_table(part, days))
