"""Curves: lists of points, their seats, and the points found by going between these."""

from curveseat.axes import axes, narrowed, points_of, share_over, spread


def rows(curve, t):
    """The seats, then row by row the points between neighbours at t, down to one point."""
    xs, ys = axes(curve)
    found = [list(curve)]
    while len(found) < len(curve):
        xs, ys = narrowed(xs, t), narrowed(ys, t)
        found.append(points_of(xs, ys))
    return found


def point(curve, t):
    """The curve's point at t."""
    return polar(curve, [t] * (len(curve) - 1))


def weights(n, t):
    """The weights of n at t, by which the seats come to the point at t."""
    return [share_over(top, [t[1]] * n) for top in spread(n, t[1] - t[0], t[0])]


def polar(curve, shares):
    """The point that comes by rows, each made at the next one of the shares."""
    xs, ys = axes(curve)
    for t in shares:
        xs, ys = narrowed(xs, t), narrowed(ys, t)
    return points_of(xs, ys)[0]
