"""Hulls and boxes: what a list of points, and so a curve from 0 to 1, lies in."""

from curveseat.axes import axes, points_of


def whole_places(points):
    """The points as pairs of whole numbers: every x over one bottom, every y over another one.

    A bottom is above 0: so the order of places and the side to which they turn stay as they were.
    """
    xs, ys = axes(points)
    return list(zip(xs[0], ys[0]))


def turn(one, other, third):
    """Above 0 where the way over three places turns to the left, below 0 to the right, 0 on a line."""
    return (other[0] - one[0]) * (third[1] - one[1]) - (other[1] - one[1]) * (third[0] - one[0])


def left_way(places):
    """The way from the first place to the last one that has all others on its left and turns to the left only."""
    found = []
    for place in places:
        while len(found) > 1 and turn(found[-2], found[-1], place) <= 0:
            found.pop()
        found.append(place)
    return found


def hull(points):
    """The corners of the hull, from the least point round to the left."""
    told = dict(zip(whole_places(points), points))
    places = sorted(told)
    if len(places) == 1:
        return [points[0]]
    # Each way ends where the other one begins.
    around = left_way(places)[:-1] + left_way(places[::-1])[:-1]
    return [told[place] for place in around]


def in_hull(corners, place):
    """Whether a point lies in the hull told by its corners."""
    around = whole_places(corners + [place])
    spot = around.pop()
    if len(around) == 1:
        return spot == around[0]
    if len(around) == 2:
        return turn(around[0], around[1], spot) == 0 and min(around) <= spot <= max(around)
    return all([turn(one, other, spot) >= 0 for one, other in zip(around, around[1:] + around[:1])])


def both_ends(one):
    """The axis of the least and of the greatest of an axis."""
    tops, bottoms = one
    return ([min(tops), max(tops)], bottoms)


def box(points):
    """The least x, the least y, the greatest x and the greatest y."""
    xs, ys = axes(points)
    low, high = points_of(both_ends(xs), both_ends(ys))
    return low + high
