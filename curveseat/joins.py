"""Joins: how smoothly one curve goes on in another one.

A power of number k tells the point at 0 of the speed taken k times, by a number that hangs on k alone. So curves
are held together by powers: those of the one behind its end, and those of the other one.
"""

from curveseat.cuts import turned
from curveseat.points import NOUGHT, step
from curveseat.powers import of_powers, powers


def powers_behind(curve):
    """The powers of how a curve goes on behind its end: the point at 1 + u, by u."""
    # Turned, the curve has its point at 1 + u at -u: so each odd power changes its sign.
    some = powers(turned(curve))
    return [step(one, NOUGHT) if k % 2 == 1 else one for k, one in enumerate(some)]


def smoothness(one, other, most):
    """How often, up to most times, the speeds of two curves that join are alike there; -1 where they don't join."""
    if one[-1] != other[0]:
        return -1
    spare = [NOUGHT] * most
    ends, begins = powers_behind(one) + spare, powers(other) + spare
    found = 0
    while found < most and ends[found + 1] == begins[found + 1]:
        found += 1
    return found


def onward(curve, seats, k):
    """The first k + 1 seats of the curves with so many seats that have a smoothness of k behind the curve."""
    # The first k + 1 powers alone tell the first k + 1 seats: whatever the others are, these seats stay.
    some = powers_behind(curve) + [NOUGHT] * seats
    return of_powers(some[:seats])[:k + 1]
