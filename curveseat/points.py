"""Points and the steps between them: tuples (x, y) of two shares."""

from curveseat.shares import between, minus, plus, times

NOUGHT = ((0, 1), (0, 1))


def on_way(one, other, t):
    """The point between two points at t."""
    return (between(one[0], other[0], t), between(one[1], other[1], t))


def step(one, other):
    """The step from the one point to the other one."""
    return (minus(other[0], one[0]), minus(other[1], one[1]))


def cross(one, other):
    """The cross of two steps: above 0 where the other one turns to the left."""
    return minus(times(one[0], other[1]), times(one[1], other[0]))


def dot(one, other):
    """The dot of two steps."""
    return plus(times(one[0], other[0]), times(one[1], other[1]))
