"""Cutting: a curve in two, a stretch of it, and the curve turned."""

from curveseat.curves import polar, rows


def cut(curve, t):
    """The two curves into which a curve is cut at t."""
    found = rows(curve, t)
    return ([row[0] for row in found], [row[-1] for row in reversed(found)])


def stretch(curve, s, t):
    """The curve that has at u the point which this one has at s + u (t - s)."""
    last = len(curve) - 1
    return [polar(curve, [s] * (last - k) + [t] * k) for k in range(last + 1)]


def turned(curve):
    """The curve with its seats the other way round."""
    return list(reversed(curve))
