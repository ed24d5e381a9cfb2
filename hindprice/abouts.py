"""Numbers from 0 on told by their first bits: enough to tell most of them apart.

An about is a pair (low, up) of integers, for low times 2 to the up. It is 0 for
0 alone; any other one is off by so little of its number, also behind all that is
reckoned with it, that is_surely_lower is sure.
"""

KEPT = 320
SURE = 260
FAR = 400
NOTHING = (0, 0)


def cut(low, up):
    """No more than the first bits."""
    behind = low.bit_length() - KEPT
    if behind > 0:
        return (low >> behind, up + behind)
    return (low, up)


def about(top, bottom):
    """That of a number that is 0 or above, bottom being above 0."""
    if top == 0:
        return NOTHING
    first, up = cut(top, 0)
    last, down = cut(bottom, 0)
    more = KEPT + last.bit_length() - first.bit_length()
    return ((first << more) // last, up - down - more)


def about_product(one, other):
    """That of the product of two numbers."""
    low, up = one
    more, above = other
    return cut(low * more, up + above)


def about_sum(one, other):
    """That of the sum of two numbers."""
    if one[0] == 0:
        return other
    if other[0] == 0:
        return one
    if one[1] < other[1]:
        return about_sum(other, one)
    low, up = one
    more, below = other
    if up - below > FAR:
        return one
    return cut((low << (up - below)) + more, below)


def is_surely_lower(one, other):
    """Whether the first of two numbers is certainly less than the other one."""
    low, up = one
    more, above = other
    if low == 0 or more == 0:
        return low < more
    ahead = more.bit_length() + above - low.bit_length() - up
    if ahead > 2 or ahead < 0:
        return ahead > 2
    common = min(up, above)
    here = low << (up - common)
    return here + (here >> SURE) < more << (above - common)


def at_least_times(one, other):
    """So many times the other number is at least the one, both above 0: an integer, hardly more than is needed."""
    low, up = one
    more, above = other
    most = low + (low >> SURE) + 1
    least = more - (more >> SURE)
    if up >= above:
        return (most << (up - above)) // least + 1
    return most // (least << (above - up)) + 1
