"""Paths: curves put together, each of which joins the next one."""

from curveseat.curves import point as curve_point
from curveseat.cuts import cut as cut_curve, turned as turned_curve
from curveseat.errors import NoJoin, NoPlace

MOST_CURVES = 12


def copied(curves):
    """The curves, in new lists."""
    return [list(curve) for curve in curves]


class Path:
    """One to twelve curves, each of which joins the next one; any others are refused with NoJoin."""

    def __init__(self, curves):
        if not 1 <= len(curves) <= MOST_CURVES:
            raise NoJoin("a path has one to twelve curves")
        if not all([one[-1] == other[0] for one, other in zip(curves, curves[1:])]):
            raise NoJoin("a curve doesn't join the next one")
        self.parts = copied(curves)

    def curves(self):
        """The curves, in new lists."""
        return copied(self.parts)

    def point(self, t):
        """The point at t, refused with NoPlace below 0 and above the number of curves."""
        if t == (len(self.parts), 1):
            return self.parts[-1][-1]
        number, rest = self.place(t)
        return curve_point(self.parts[number], rest)

    def cut(self, t):
        """The two paths ahead of t and behind it, refused with NoPlace at the ends and outside."""
        number, rest = self.place(t)
        ahead, behind = self.parts[:number], self.parts[number:]
        if rest[0] > 0:
            first, second = cut_curve(behind[0], rest)
            ahead, behind = ahead + [first], [second] + behind[1:]
        if not ahead:
            raise NoPlace("a path isn't cut at its begin")
        return (Path(ahead), Path(behind))

    def turned(self):
        """The path with its curves turned and in the other order."""
        return Path([turned_curve(curve) for curve in self.parts[::-1]])

    def place(self, t):
        """The number of the curve that t lies in, below its end, and what t is above this number."""
        top, bottom = t
        number = top // bottom
        if not 0 <= number < len(self.parts):
            raise NoPlace("a path has places from 0 to the number of its curves")
        return (number, (top - number * bottom, bottom))
