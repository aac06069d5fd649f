"""Shares: exact fractions, each a tuple (top, bottom) in lowest terms with a bottom from 1 on."""

from curveseat.errors import NoShare


def greatest_common(one, other):
    """The greatest whole number that divides both; not both of them are 0."""
    while other != 0:
        one, other = other, one % other
    return abs(one)


def share(top, bottom):
    """The share of two whole numbers, refused with NoShare where the second is 0."""
    if bottom == 0:
        raise NoShare("a share has no bottom of 0")
    common = greatest_common(top, bottom)
    if bottom < 0:
        # Taking a number below 0 out of both turns both signs, so the bottom comes above 0.
        common = -common
    return (top // common, bottom // common)


def plus(one, other):
    """The sum of two shares."""
    return share(one[0] * other[1] + other[0] * one[1], one[1] * other[1])


def minus(one, other):
    """The one share less the other one."""
    return share(one[0] * other[1] - other[0] * one[1], one[1] * other[1])


def times(one, other):
    """The product of two shares."""
    return share(one[0] * other[0], one[1] * other[1])


def over(one, other):
    """What the one share is over the other one, refused with NoShare where that is 0."""
    # A top of 0 becomes the bottom here, and so is refused where the share is made.
    return share(one[0] * other[1], one[1] * other[0])


def under(one, other):
    """Whether the one share is less than the other one."""
    # Bottoms are above 0, so multiplying by them keeps the order.
    return one[0] * other[1] < other[0] * one[1]


def between(one, other, t):
    """The share between two at t: the one at 0, the other one at 1."""
    return plus(one, times(t, minus(other, one)))
