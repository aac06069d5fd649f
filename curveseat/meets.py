"""Where curves meet: their stretches, the pairs of these that meet, and lines that part all the others.

A whole curve here is a list of whole places (x, y): every x is over one bottom and the room, every y over another
bottom and the room. The room is there to be halved: so all stretches down to a level stay whole.
"""

from curveseat.axes import axes, points_of, product, share_over
from curveseat.errors import TooMany
from curveseat.partings import parted, told_line
from curveseat.shares import under

MOST_LEVEL = 6
MOST_PAIRS = 256


def room_for(seats, level):
    """What places are taken times, so that curves with so many seats stay whole down to a level."""
    # Each level halves a place once less than there are seats, at most.
    return 1 << level * (seats - 1)


def whole_curve(xs, ys, room):
    """The whole curve of the axes of its seats."""
    return [(x * room, y * room) for x, y in zip(xs[0], ys[0])]


def halves(curve):
    """Both halves of a whole curve."""
    first, second = [], []
    row = curve
    while row:
        first.append(row[0])
        second.append(row[-1])
        row = [((x + u) // 2, (y + v) // 2) for (x, y), (u, v) in zip(row, row[1:])]
    return (first, second[::-1])


def halved(curves):
    """Both halves of each whole curve, in order."""
    return [half for curve in curves for half in halves(curve)]


def stretches(curve, level):
    """The stretches of a curve of a level."""
    xs, ys = axes(curve)
    room = room_for(len(curve), level)
    found = [whole_curve(xs, ys, room)]
    for depth in range(level):
        found = halved(found)
    return [
        points_of(([x for x, y in part], xs[1] + [room]), ([y for x, y in part], ys[1] + [room]))
        for part in found
    ]


class Ground:
    """Two curves as whole ones over the same bottoms, and their stretches of a level that goes down from 0."""

    def __init__(self, one, other, level):
        xs, ys = axes(one + other)
        self.room = room_for(max(len(one), len(other)), level)
        self.x_bottoms, self.y_bottoms = xs[1], ys[1]
        both = whole_curve(xs, ys, self.room)
        self.ones, self.others = [both[:len(one)]], [both[len(one):]]

    def go_down(self):
        """Go to the stretches of the next level."""
        self.ones, self.others = halved(self.ones), halved(self.others)


def pairs_below(pairs):
    """The pairs of stretches of the next level that lie in these pairs, in order."""
    return sorted([(2 * i + k, 2 * j + m) for i, j in pairs for k in (0, 1) for m in (0, 1)])


def sifted(ground, pairs):
    """Those pairs of a ground's stretches that meet, and those that don't, with lines."""
    x_bottom, y_bottom = product(ground.x_bottoms), product(ground.y_bottoms)
    found, thrown = [], []
    for i, j in pairs:
        line, steps = parted(ground.ones[i], ground.others[j])
        if line is None:
            found.append((i, j))
        else:
            thrown.append((i, j) + told_line(line, x_bottom, y_bottom, ground.room))
    if len(found) > MOST_PAIRS:
        raise TooMany("too many pairs of stretches meet on one level")
    return (found, thrown)


def meets(one, other, level):
    """The pairs of stretches of a level that meet, and those thrown away on the way down to it."""
    ground = Ground(one, other, level)
    pairs, thrown = sifted(ground, [(0, 0)])
    told = [(0,) + each for each in thrown]
    for depth in range(1, level + 1):
        ground.go_down()
        # The seats of a stretch lie in the hull of those ahead: so what meets lies in pairs that meet.
        pairs, thrown = sifted(ground, pairs_below(pairs))
        told.extend([(depth,) + each for each in thrown])
    return (pairs, told)


def whole_box(part):
    """The least x, the least y, the greatest x and the greatest y of a whole curve."""
    across, up = [x for x, y in part], [y for x, y in part]
    return (min(across), min(up), max(across), max(up))


def all_small(ground, nearness):
    """Whether the boxes of all stretches have sides of at most this length."""
    top, bottom = nearness
    most_x = top * product(ground.x_bottoms) * ground.room
    most_y = top * product(ground.y_bottoms) * ground.room
    boxes = [whole_box(part) for part in ground.ones + ground.others]
    return all([
        (right - left) * bottom <= most_x and (high - low) * bottom <= most_y
        for left, low, right, high in boxes
    ])


def told_box(ground, part):
    """The box, in shares, of a stretch of a ground."""
    left, low, right, high = whole_box(part)
    x_bottoms, y_bottoms = ground.x_bottoms + [ground.room], ground.y_bottoms + [ground.room]
    return (
        share_over(left, x_bottoms), share_over(low, y_bottoms),
        share_over(right, x_bottoms), share_over(high, y_bottoms),
    )


def lesser(one, other):
    """The lesser one of two shares."""
    return one if under(one, other) else other


def greater(one, other):
    """The greater one of two shares."""
    return other if under(one, other) else one


def common_box(one, other):
    """The box that is common to two boxes which have a point in common."""
    return (
        greater(one[0], other[0]), greater(one[1], other[1]),
        lesser(one[2], other[2]), lesser(one[3], other[3]),
    )


def near(one, other, nearness):
    """The least level on which all boxes are small enough, and the pairs that meet there, with common boxes."""
    ground = Ground(one, other, MOST_LEVEL)
    level = 0
    while not all_small(ground, nearness):
        if level == MOST_LEVEL:
            raise TooMany("no level has stretches so small")
        ground.go_down()
        level += 1
    pairs, thrown = meets(one, other, level)
    ones = [told_box(ground, part) for part in ground.ones]
    others = [told_box(ground, part) for part in ground.others]
    return (level, [(i, j, common_box(ones[i], others[j])) for i, j in pairs])
