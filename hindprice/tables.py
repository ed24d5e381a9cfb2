"""Tables: the worths of a promise at all counts, or at all words, ascending.

Nothing is checked here. A table is a list of pairs (top, bottom) of integers,
which need not be in their one form: few bottoms come in a table, again and
again, and to find each one form would take longer than all else.
"""

from math import lcm

from hindprice.exact import bottom_of, integer_power, levelled, top_of
from hindprice.promises import (
    BestMix,
    BestWalk,
    Hold,
    Mix,
    Sum,
    Then,
    Times,
    all_in,
    parts_in,
)
from hindprice.steps import begins_to, carried, paid_to, shares_of
from hindprice.words import all_counts

# From so many bits on a product takes longer than to look at its factors' first ones.
LONG = 4000
FIRST_BITS = 64


def first_bits(number):
    """The first bits of an integer from 0 on, and how many stand behind them."""
    behind = max(0, number.bit_length() - FIRST_BITS)
    return (number >> behind, behind)


def about(one, other):
    """What a product is at least, and what it is below, both without so many bits behind."""
    first, behind = first_bits(one)
    last, more = first_bits(other)
    return (first * last, (first + 1) * (last + 1), behind + more)


def is_surely_lower(one, other):
    """Whether what one product is below is not above what another one is at least."""
    _, most, behind = one
    least, _, more = other
    common = min(behind, more)
    return most << (behind - common) <= least << (more - common)


def is_lower(one, other):
    """Whether one pair is less than another one; both are from 0 on."""
    top, bottom = one
    more, low = other
    if bottom == low or top == 0 or more == 0:
        return top < more
    # A product has as many bits as its factors together, or one less: mostly
    # this tells which product is less.
    here = top.bit_length() + low.bit_length()
    there = more.bit_length() + bottom.bit_length()
    if here + 1 < there or there + 1 < here:
        return here < there
    if here > LONG:
        near = about(top, low)
        other_near = about(more, bottom)
        if is_surely_lower(near, other_near) or is_surely_lower(other_near, near):
            return is_surely_lower(near, other_near)
    return top * low < more * bottom


def greater_table(one, other):
    """The greater ones of the pairs of two tables, place by place."""
    return [pair if is_lower(least, pair) else least for least, pair in zip(one, other)]


def lesser_table(one, other):
    """The lesser ones of the pairs of two tables, place by place."""
    return [pair if is_lower(pair, most) else most for most, pair in zip(one, other)]


def greatest_place(table):
    """The first place at which a table has its greatest pair."""
    best = 0
    for place, pair in enumerate(table):
        if is_lower(table[best], pair):
            best = place
    return best


def added_table(one, other):
    """The sums of the pairs of two tables, place by place."""
    common = {}
    sums = []
    for (top, bottom), (more, low) in zip(one, other):
        if (bottom, low) not in common:
            common[(bottom, low)] = lcm(bottom, low)
        both = common[(bottom, low)]
        sums.append((top * (both // bottom) + more * (both // low), both))
    return sums


def put_together(promise, tables):
    """The table of a Times, a Sum or a Greatest, by those of its parts."""
    table = tables[0]
    if isinstance(promise, Times):
        over = top_of(promise.number)
        under = bottom_of(promise.number)
        return [(top * over, bottom * under) for top, bottom in table]
    for other in tables[1:]:
        table = added_table(table, other) if isinstance(promise, Sum) else greater_table(table, other)
    return table


def is_without_order(promise):
    """Whether no Then and no BestWalk is in a promise."""
    return not any([isinstance(part, (Then, BestWalk)) for part in all_in(promise)])


def powers_of(top, days):
    """All powers of an integer up to that of so many days."""
    row = [1]
    for _ in range(days):
        row.append(row[-1] * top)
    return row


def looked_up(rows, bottom, places):
    """For each counts the product of what the row of each good has for its count, over bottom."""
    table = []
    for counts in places:
        top = 1
        for row, count in zip(rows, counts):
            top = top * row[count]
        table.append((top, bottom))
    return table


def mix_table(shares, days, places):
    """The table of a Mix at all counts."""
    tops, bottom = levelled(shares)
    return looked_up([powers_of(top, days) for top in tops], integer_power(bottom, days), places)


def best_table(begun, days, places):
    """The table of a BestMix with these counts at first, at all counts."""
    rows = [[integer_power(count, count) for count in range(first, first + days + 1)] for first in begun]
    many = sum(begun) + days
    return looked_up(rows, integer_power(many, many), places)


def count_table_at(promise, days, places):
    """The table of an orderless promise at these counts, which are all for so many days."""
    if isinstance(promise, Hold):
        shares = [1 if good == promise.good else 0 for good in range(promise.goods)]
        return mix_table(shares, days, places)
    if isinstance(promise, Mix):
        return mix_table(promise.shares, days, places)
    if isinstance(promise, BestMix):
        return best_table(promise.counts, days, places)
    return put_together(promise, [count_table_at(part, days, places) for part in parts_in(promise)])


def count_table(promise, days):
    """The table of an orderless promise at all counts with the sum days."""
    return count_table_at(promise, days, all_counts(promise.goods, days))


def counted_more(counts, good):
    """The counts with one more for a good."""
    return (*counts[:good], counts[good] + 1, *counts[good + 1:])


def spread_out(promise, days):
    """The table of an orderless promise at all words of so many goods."""
    known = {}
    for counts, pair in zip(all_counts(promise.goods, days), count_table(promise, days)):
        known[counts] = pair
    counted = [(0,) * promise.goods]
    for _ in range(days):
        counted = [counted_more(counts, good) for counts in counted for good in range(promise.goods)]
    return [known[counts] for counts in counted]


def then_table(promise, days):
    """The table of a Then at all words of so many goods."""
    ahead = min(days, promise.days)
    first = word_table(promise.first, ahead)
    last = word_table(promise.last, days - ahead)
    return [(top * more, bottom * low) for top, bottom in first for more, low in last]


def walk_table(promise, days):
    """The table of a BestWalk at all words of so many goods."""
    machine = promise.machine
    weights, bottom = levelled(promise.weights)
    rows, low = shares_of(machine)
    begins = begins_to(machine)
    made = [weights]
    for day in range(days):
        # Behind the last day nothing is carried on: an arrow leads on from each standing.
        if day > 0:
            made = [carried(begins, row) for row in made]
        made = [paid_to(row, pays) for row in made for pays in zip(*rows)]
    bottom = bottom * integer_power(low, days)
    return [(max(row), bottom) for row in made]


def word_table(promise, days):
    """The table of a promise at all words of so many goods."""
    if is_without_order(promise):
        return spread_out(promise, days)
    if isinstance(promise, Then):
        return then_table(promise, days)
    if isinstance(promise, BestWalk):
        return walk_table(promise, days)
    return put_together(promise, [word_table(part, days) for part in parts_in(promise)])
