"""Maps: tuples (a, b, c, d, e, f) of six shares that lead (x, y) to (a x + b y + e, c x + d y + f)."""

from curveseat.errors import NoMap
from curveseat.points import cross, dot
from curveseat.shares import minus, over, plus

ZERO = (0, 1)


def map_step(by, one):
    """The step that a step becomes by a map: e and f move both its ends alike."""
    return (dot(by[:2], one), dot(by[2:4], one))


def map_point(by, place):
    """The point to which a map leads a point."""
    x, y = map_step(by, place)
    return (plus(x, by[4]), plus(y, by[5]))


def mapped(curve, by):
    """The curve, mapped seat by seat."""
    return [map_point(by, seat) for seat in curve]


def then(one, other):
    """The map that does the one map, then the other one."""
    a, b, c, d, e, f = one
    # (a, c), (b, d) and (e, f) tell where a map leads the step along x, the step along y and the point nought.
    along_x, along_y = map_step(other, (a, c)), map_step(other, (b, d))
    return (along_x[0], along_y[0], along_x[1], along_y[1]) + map_point(other, (e, f))


def back(by):
    """The map that undoes a map, refused with NoMap where a d - b c is 0."""
    a, b, c, d, e, f = by
    size = cross((a, b), (c, d))
    if size == ZERO:
        raise NoMap("a map that leads the plane to a line can't be undone")
    turn = (over(d, size), over(minus(ZERO, b), size), over(minus(ZERO, c), size), over(a, size))
    # A map ends with the move by (e, f): undone first, this move too is led on by the turn back.
    x, y = map_step(turn + (ZERO, ZERO), (e, f))
    return turn + (minus(ZERO, x), minus(ZERO, y))
