"""Reckoning with numbers that were found to be numbers: nothing is checked here."""

from math import gcd, lcm

# From so many bits on all that two integers have in common is found sooner at once.
LONG_PART = 2000


def top_of(number):
    """What stands above the line."""
    if isinstance(number, int):
        return number
    return number[0]


def bottom_of(number):
    """What stands below the line, 1 for an integer."""
    if isinstance(number, int):
        return 1
    return number[1]


def over(top, bottom):
    """The number top over bottom, in its one form; bottom is not 0."""
    if bottom < 0:
        return over(-top, -bottom)
    shared = gcd(top, bottom)
    if shared == bottom:
        return top // bottom
    return (top // shared, bottom // shared)


def part_with(top, shared):
    """What divides an integer and has no prime that shared has not, shared dividing it; not all if it is long."""
    part = 1
    more = shared
    while more != part and part.bit_length() < LONG_PART:
        part = more
        more = gcd(top % (part * part), part * part)
    return more


def over_by(top, bottom, bases):
    """The number top over bottom, in its one form; each prime in bottom is in one of the bases."""
    if top == 0 or 8 * sum([base.bit_length() for base in bases]) > bottom.bit_length():
        return over(top, bottom)
    # Far shorter integers tell what both have in common: mostly nothing, or little.
    for base in bases:
        shared = gcd(top % base, base)
        if shared > 1:
            part = part_with(top, shared)
            if part.bit_length() >= LONG_PART:
                return over(top, bottom)
            common = gcd(bottom % part, part)
            top = top // common
            bottom = bottom // common
    if bottom == 1:
        return top
    return (top, bottom)


def opposite(number):
    """0 less the number."""
    if isinstance(number, int):
        return -number
    return (-number[0], number[1])


def is_less(one, other):
    """Whether one number is less than another one."""
    return top_of(one) * bottom_of(other) < top_of(other) * bottom_of(one)


def by_bottoms(pairs):
    """The tops of some pairs by their bottoms: long sums mostly have few bottoms."""
    tops = {}
    for pair in pairs:
        tops.setdefault(bottom_of(pair), []).append(top_of(pair))
    return tops


def two_by_two(pairs, tell):
    """What is left of some pairs, at least one, if each two are put together to one, again and again."""
    while len(pairs) > 1:
        both = [tell(pairs[at], pairs[at + 1]) for at in range(0, len(pairs) - 1, 2)]
        pairs = [*both, *pairs[2 * len(both):]]
    return pairs[0]


def cross_sum(one, other):
    """The sum of two pairs, in any form."""
    top, bottom = one
    more, low = other
    return (top * low + more * bottom, bottom * low)


def added(pairs):
    """The sum of pairs that need not be in their one form, nor is it: to find it would take longer than all else."""
    tops = by_bottoms(pairs)
    return two_by_two([(0, 1), *[(sum(tops[bottom]), bottom) for bottom in tops]], cross_sum)


def cut_sum(one, other):
    """The sum of two pairs of which neither has anything in common; neither has it."""
    top, bottom = one
    more, low = other
    shared = gcd(bottom, low)
    if shared == 1:
        return (top * low + more * bottom, bottom * low)
    whole = top * (low // shared) + more * (bottom // shared)
    # Nothing else of the bottoms can be in it, too.
    common = gcd(whole, shared)
    return (whole // common, (bottom // shared) * (low // common))


def cut_pair(tops, bottom):
    """The sum of some tops over a bottom, without what both have in common; one alone has nothing."""
    top = sum(tops)
    if len(tops) == 1:
        return (top, bottom)
    shared = gcd(top, bottom)
    return (top // shared, bottom // shared)


def sum_of(numbers):
    """The sum of a list of numbers."""
    tops = by_bottoms(numbers)
    top, bottom = two_by_two([(0, 1), *[cut_pair(tops[bottom], bottom) for bottom in tops]], cut_sum)
    if bottom == 1:
        return top
    return (top, bottom)


def cut_product(one, other):
    """The product of two pairs of which neither has anything in common; nor has it."""
    top, bottom = one
    more, low = other
    shared = gcd(top, low)
    common = gcd(more, bottom)
    return ((top // shared) * (more // common), (bottom // common) * (low // shared))


def product_of(numbers):
    """The product of a list of numbers, 1 of none."""
    pairs = [(top_of(number), bottom_of(number)) for number in numbers]
    top, bottom = two_by_two([(1, 1), *pairs], cut_product)
    if bottom == 1:
        return top
    return (top, bottom)


def ratio(one, other):
    """One number over another one that is not 0."""
    if top_of(other) < 0:
        return ratio(opposite(one), opposite(other))
    return product_of([one, (bottom_of(other), top_of(other))])


def greatest_of(numbers):
    """The greatest of a list of numbers, at least one."""
    greatest = numbers[0]
    for number in numbers:
        if is_less(greatest, number):
            greatest = number
    # It may have been passed as a list.
    return product_of([greatest])


def levelled(numbers):
    """The tops of some numbers over one common bottom, and this bottom."""
    bottoms = {bottom_of(number): True for number in numbers}
    common = 1
    for bottom in bottoms:
        common = lcm(common, bottom)
    more = {bottom: common // bottom for bottom in bottoms}
    return ([top_of(number) * more[bottom_of(number)] for number in numbers], common)


def sum_of_products(row, day):
    """The sum of the products of the numbers of two rows, place by place."""
    return sum_of([product_of([one, other]) for one, other in zip(row, day)])


def integer_power(base, many):
    """An integer, so many times as a factor."""
    if many == 0:
        return 1
    half = integer_power(base, many // 2)
    if many % 2 == 1:
        return half * half * base
    return half * half


def power_of(number, many):
    """A number, so many times as a factor; no time makes 1."""
    if isinstance(number, int):
        return integer_power(number, many)
    if many == 0:
        return 1
    # What has nothing in common has nothing as powers, either.
    return (integer_power(number[0], many), integer_power(number[1], many))
