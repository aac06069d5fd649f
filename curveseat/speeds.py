"""Speeds: how a curve's point moves on."""

from curveseat.points import NOUGHT, step
from curveseat.shares import times


def speed(curve):
    """The curve of the steps from seat to seat, each as many times as there are steps."""
    n = len(curve) - 1
    if n == 0:
        return [NOUGHT]
    steps = [step(one, other) for one, other in zip(curve, curve[1:])]
    return [(times((n, 1), x), times((n, 1), y)) for x, y in steps]
