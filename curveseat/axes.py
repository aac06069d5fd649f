"""Axes: the x or the y of some points, as whole numbers over one common bottom.

An axis is a tuple (tops, bottoms) of two lists: each top stands over all the bottoms, taken times one another.
Over a common bottom no sum on the way needs lowest terms: each share is brought to them once, where points are told.
"""

from curveseat.shares import greatest_common


def common_bottoms(shares):
    """Numbers that, times one another, come to the least one that every bottom of the shares divides."""
    found = []
    whole = 1
    for one in shares:
        more = one[1] // greatest_common(whole, one[1])
        if more > 1:
            found.append(more)
            whole = whole * more
    return found


def product(numbers):
    """All the numbers times one another."""
    found = 1
    for number in numbers:
        found = found * number
    return found


def share_over(top, bottoms):
    """The share of a top over all the bottoms."""
    below = 1
    for bottom in bottoms:
        # Bottom by bottom is quicker than over them all at once, and it leads to lowest terms too:
        # what is left of the top divides what it was, so it shares nothing again with a bottom that is done.
        common = greatest_common(top, bottom)
        top, below = top // common, below * (bottom // common)
    return (top, below)


def axis(shares):
    """The axis of some shares."""
    bottoms = common_bottoms(shares)
    whole = product(bottoms)
    return ([one[0] * (whole // one[1]) for one in shares], bottoms)


def axes(points):
    """The axis of every x and the axis of every y."""
    return (axis([place[0] for place in points]), axis([place[1] for place in points]))


def points_of(xs, ys):
    """The points of an axis of every x and an axis of every y."""
    return [(share_over(x, xs[1]), share_over(y, ys[1])) for x, y in zip(xs[0], ys[0])]


def narrowed(one, t):
    """The axis of what lies between each two neighbours at t."""
    tops, bottoms = one
    near, far = t[1] - t[0], t[0]
    return ([near * top + far * beside for top, beside in zip(tops, tops[1:])], bottoms + [t[1]])


def spread(n, one, other):
    """The n + 1 numbers: one taken n - k times, other taken k times, times the ways to choose k of n."""
    found = [1]
    while len(found) <= n:
        # A thing more is chosen or it is not: so the ways are counted without being reckoned apart.
        found = [one * left + other * taken for left, taken in zip(found + [0], [0] + found)]
    return found
