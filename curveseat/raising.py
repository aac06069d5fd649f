"""Raising and lowering: the same points at every share, told by more seats or by fewer."""

from curveseat.errors import NoLower, TooMany
from curveseat.points import NOUGHT, on_way
from curveseat.powers import of_powers, powers
from curveseat.shares import share

MOST_SEATS = 12


def raised(curve):
    """The curve with one seat more, refused with TooMany where it has the most already."""
    many = len(curve)
    if many >= MOST_SEATS:
        raise TooMany("no curve has more than twelve seats")
    inner = [on_way(curve[k], curve[k - 1], share(k, many)) for k in range(1, many)]
    return [curve[0]] + inner + [curve[-1]]


def last_is_spare(some):
    """Whether a list of powers tells the same points without its last one."""
    return len(some) > 1 and some[-1] == NOUGHT


def lowered(curve):
    """The curve with one seat less, refused with NoLower where there is none."""
    # A seat less is a power less, and powers are told in one way only: so the last one has to be nought.
    some = powers(curve)
    if not last_is_spare(some):
        raise NoLower("no curve with one seat less is the same")
    return of_powers(some[:-1])


def least(curve):
    """The curve lowered as often as can be."""
    some = powers(curve)
    while last_is_spare(some):
        some.pop()
    return of_powers(some)


def same(one, other):
    """Whether two curves have the same point at every share."""
    return least(one) == least(other)
