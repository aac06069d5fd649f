"""Partings: of two lists of points a line that parts them, or shares by which both lists come to one point.

Both are told by steps (x, y, i, j), in whole numbers, from place i of the one list to place j of the other one.
A line parts the lists where all steps lead on along one way. Where there is no such way, some steps, each taken
some times, come to nought: taken so often, the places at their begins come to the same as those at their ends.
"""

from curveseat.axes import axes, product
from curveseat.hulls import whole_places
from curveseat.shares import share

# Tried first, as they are the quickest and part most lists that can be parted.
PLAIN_WAYS = ((1, 0), (-1, 0), (0, 1), (0, -1))


def along(places, way):
    """How far each place lies along a way."""
    return [x * way[0] + y * way[1] for x, y in places]


def step_across(ones, others, i, j):
    """The step from place i of the ones to place j of the others."""
    return (others[j][0] - ones[i][0], others[j][1] - ones[i][1], i, j)


def turn_between(one, other):
    """Above 0 where the other step leads to the left of the one, below 0 to the right, 0 on its line."""
    return one[0] * other[1] - one[1] * other[0]


def reach(ones, others, way):
    """How far the ones come along a way, where the others begin, and the step between two such places."""
    fore, behind = along(ones, way), along(others, way)
    most, least = max(fore), min(behind)
    return (most, least, step_across(ones, others, fore.index(most), behind.index(least)))


def way_amid(right, left):
    """A way along which two steps lead on, and all steps from the right one round to the left one."""
    if right == left:
        return right[:2]
    return (left[1] - right[1], right[0] - left[0])


def parted(ones, others):
    """A line that parts two lists of whole places, and no steps; or None, and steps that come to nought.

    The line is told as (a, b, c): a x + b y is under the half of c for the ones, above it for the others.
    """
    for way in PLAIN_WAYS:
        most, least, found = reach(ones, others, way)
        if most < least:
            return (way + (most + least,), [])
    right = left = step_across(ones, others, 0, 0)
    if right[:2] == (0, 0):
        return (None, [right])
    while True:
        way = way_amid(right, left)
        most, least, found = reach(ones, others, way)
        if most < least:
            return (way + (most + least,), [])
        # What is found does not lead on as all from right to left do: so it lies outside, and each time these
        # become more, or they and the one found reach round far enough to come to nought.
        if turn_between(right, found) > 0:
            left = found
        elif turn_between(found, left) > 0:
            right = found
        else:
            return (None, [right, found] if right == left else [right, left, found])


def times_to_nought(steps):
    """How often each of one to three steps, as parted tells them, is taken where all come to nought."""
    if len(steps) == 1:
        return [1]
    if len(steps) == 2:
        one, other = steps
        return [-one[0] * other[0] - one[1] * other[1], one[0] * one[0] + one[1] * one[1]]
    right, left, across = steps
    return [turn_between(left, across), turn_between(across, right), turn_between(right, left)]


def common_shares(one, other, steps):
    """The shares of the points of both lists that steps which come to nought tell."""
    # The steps are reckoned anew of their own points alone: these have a smaller common bottom than all points.
    many = len(steps)
    places = whole_places([one[i] for x, y, i, j in steps] + [other[j] for x, y, i, j in steps])
    often = times_to_nought([step_across(places[:many], places[many:], k, k) for k in range(many)])
    ones, others = [0] * len(one), [0] * len(other)
    for (x, y, i, j), much in zip(steps, often):
        ones[i] += much
        others[j] += much
    whole = sum(often)
    return ([share(much, whole) for much in ones], [share(much, whole) for much in others])


def told_line(line, x_bottom, y_bottom, room):
    """The shares of a line of whole places: every x over its bottom, every y over its own, both over the room."""
    a, b, c = line
    return ((a * x_bottom, 1), (b * y_bottom, 1), share(c, 2 * room))


def parting(one, other):
    """A line that parts two lists of points, or shares by which both lists come to one point."""
    xs, ys = axes(one + other)
    places = list(zip(xs[0], ys[0]))
    line, steps = parted(places[:len(one)], places[len(one):])
    if line is None:
        return ("common",) + common_shares(one, other, steps)
    return ("line",) + told_line(line, product(xs[1]), product(ys[1]), 1)
