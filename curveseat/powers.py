"""Powers: the points that, times t taken 0, 1, 2, .. times, come to a curve's point at t."""

from curveseat.axes import axes, axis, points_of, spread


def axis_powers(one):
    """The axis of the powers, of the axis of the seats."""
    tops, bottoms = one
    found = []
    for ways in spread(len(tops) - 1, 1, 1):
        found.append(ways * tops[0])
        tops = [beside - top for top, beside in zip(tops, tops[1:])]
    return (found, bottoms)


def axis_seats(one):
    """The axis of the seats, of the axis of the powers: axis_powers undone."""
    tops, bottoms = one
    # Each power is to be taken over its number of ways: so all of them go over what these numbers have in common.
    parts, more = axis([(1, ways) for ways in spread(len(tops) - 1, 1, 1)])
    found = []
    for top, part in reversed(list(zip(tops, parts))):
        found = sums_from(top * part, found)
    return (found, bottoms + more)


def sums_from(first, steps):
    """The numbers that begin with the first one and differ by the steps."""
    found = [first]
    for more in steps:
        found.append(found[-1] + more)
    return found


def powers(curve):
    """The powers of a curve."""
    xs, ys = axes(curve)
    return points_of(axis_powers(xs), axis_powers(ys))


def of_powers(some):
    """The curve that has these powers."""
    xs, ys = axes(some)
    return points_of(axis_seats(xs), axis_seats(ys))
