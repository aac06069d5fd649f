"""Smooth ways: curves of four seats that lead through points.

The seats beside a point lie as far behind it as ahead of it, so that the speed stays alike there. Of these steps
beside the points the rest is asked, along each axis: the step beside the point ahead, four times the one beside this
point and the one beside the point behind come to the way from the point ahead to the point behind; at either end,
where there is no such point, twice the one beside the end and the one beside its neighbour come to the way between.
"""

from curveseat.axes import axes, points_of


def steps_beside(tops):
    """The steps beside the points of one axis: whole numbers, and the bottom that all of them are over."""
    wide = tops[:1] + tops + tops[-1:]
    ways = [behind - ahead for ahead, behind in zip(wide, wide[2:])]
    # From point to point the step ahead is taken out of what is asked: what is left is this step times a size, and
    # the next step times the size ahead. Over the last size all steps are whole: so no number here is rounded.
    sizes, sums = [0, 1], [0]
    for many, way in zip([2] + [4] * (len(tops) - 2) + [2], ways):
        sums.append(sizes[-1] * way - sums[-1])
        sizes.append(many * sizes[-1] - sizes[-2])
    found = [0]
    for k in reversed(range(len(tops))):
        found.append((sizes[-1] * sums[k + 1] - sizes[k + 1] * found[-1]) // sizes[k + 2])
    return (found[:0:-1], sizes[-1])


def axes_beside(one):
    """The axis of the seats behind the points and that of the seats ahead of them, of the axis of the points."""
    tops, bottoms = one
    steps, bottom = steps_beside(tops)
    behind = [top * bottom + more for top, more in zip(tops, steps)]
    ahead = [top * bottom - more for top, more in zip(tops, steps)]
    return ((behind, bottoms + [bottom]), (ahead, bottoms + [bottom]))


def through(points):
    """The smooth curves, of four seats each, from each point to the next one."""
    xs, ys = axes(points)
    x_behind, x_ahead = axes_beside(xs)
    y_behind, y_ahead = axes_beside(ys)
    behind, ahead = points_of(x_behind, y_behind), points_of(x_ahead, y_ahead)
    return [[points[k], behind[k], ahead[k + 1], points[k + 1]] for k in range(len(points) - 1)]
