"""What is handed in stays as it was, and what is told is the asker's own: of every call that takes or tells lists."""

import unittest
from copy import deepcopy

from curveseat.curves import point, polar, rows, weights
from curveseat.cuts import cut, stretch, turned
from curveseat.hulls import box, hull, in_hull
from curveseat.joins import onward, smoothness
from curveseat.maps import map_point, mapped
from curveseat.meets import meets, near, stretches
from curveseat.partings import parting
from curveseat.powers import of_powers, powers
from curveseat.raising import least, lowered, raised, same
from curveseat.smooths import through
from curveseat.speeds import speed
from curveseat.texts import read_curve, show_curve
from tests.samples import ALL_ALIKE, CLOSED, FOUR_SEATS, ONE_SEAT, TWO_SEATS, plain_curve

SPOILT = "spoilt"


def of_each_curve(*rest):
    """One row of arguments for each of some curves, which stands ahead of the rest."""
    return [
        (plain_curve(curve),) + rest
        for curve in (ONE_SEAT, TWO_SEATS, FOUR_SEATS, CLOSED, ALL_ALIKE)
    ]


SHARES = [(1, 3), (-2, 1), (1, 2)]
PLACE = ((1, 2), (1, 1))
STAY = ((1, 1), (0, 1), (0, 1), (1, 1), (0, 1), (0, 1))
TURN = ((0, 1), (-1, 1), (1, 1), (0, 1), (3, 1), (1, 2))
LOWERABLE = [(raised(plain_curve(curve)),) for curve in (ONE_SEAT, TWO_SEATS, FOUR_SEATS)] + [(plain_curve(ALL_ALIKE),)]
LONG_WAY_OFF = [((50, 1), (61, 1)), ((52, 1), (60, 1))]
CORNERS = [(hull(plain_curve(curve)), PLACE) for curve in (ONE_SEAT, TWO_SEATS, FOUR_SEATS)]

# Each call with rows of arguments; what it tells is asked of each row more than once.
CALLS = (
    (rows, of_each_curve((1, 3)) + of_each_curve((0, 1)) + of_each_curve((2, 1))),
    (point, of_each_curve((1, 3))),
    (weights, [(0, (1, 3)), (4, (1, 3)), (11, (0, 1))]),
    (polar, [(plain_curve(FOUR_SEATS), SHARES), (plain_curve(ONE_SEAT), [])]),
    (powers, of_each_curve()),
    (of_powers, of_each_curve()),
    (cut, of_each_curve((1, 3)) + of_each_curve((0, 1)) + of_each_curve((1, 1))),
    (stretch, of_each_curve((1, 3), (3, 4)) + of_each_curve((0, 1), (1, 1)) + of_each_curve((1, 2), (1, 2))),
    (turned, of_each_curve()),
    (raised, of_each_curve()),
    (lowered, LOWERABLE),
    (least, of_each_curve() + LOWERABLE),
    (same, of_each_curve(plain_curve(FOUR_SEATS)) + of_each_curve(raised(plain_curve(FOUR_SEATS)))),
    (speed, of_each_curve()),
    (map_point, [(TURN, PLACE)]),
    (mapped, of_each_curve(STAY) + of_each_curve(TURN)),
    (hull, of_each_curve()),
    (in_hull, CORNERS),
    (box, of_each_curve()),
    (parting, of_each_curve(plain_curve(FOUR_SEATS)) + of_each_curve(LONG_WAY_OFF) + of_each_curve([PLACE])),
    (stretches, of_each_curve(0) + of_each_curve(1) + of_each_curve(3)),
    (meets, of_each_curve(plain_curve(FOUR_SEATS), 0) + of_each_curve(plain_curve(FOUR_SEATS), 2)
     + of_each_curve(LONG_WAY_OFF, 1)),
    (near, of_each_curve(plain_curve(FOUR_SEATS), (7, 1)) + of_each_curve(plain_curve(FOUR_SEATS), (2, 1))),
    (smoothness, of_each_curve(plain_curve(FOUR_SEATS), 3) + [(plain_curve(CLOSED), plain_curve(CLOSED), 11)]),
    (onward, of_each_curve(1, 0) + of_each_curve(5, 2) + of_each_curve(12, 11)),
    (through, of_each_curve()),
    (show_curve, of_each_curve()),
    (read_curve, [("1,2",), ("1,2 -3/4,5 1,2",)]),
)


def lists_in(thing):
    """Every list in a thing: itself, and those within lists and tuples."""
    found = [thing] if isinstance(thing, list) else []
    if isinstance(thing, (list, tuple)):
        for part in thing:
            found += lists_in(part)
    return found


def spoil(thing):
    """Change every list in a thing at its begin and its end."""
    for one in lists_in(thing):
        one[:1] = [SPOILT]
        one.append(SPOILT)


class Lists(unittest.TestCase):
    def try_each(self, trial):
        """Hand every call, with arguments of its own to keep or to spoil, to the trial."""
        for call, arguments in CALLS:
            for handed in arguments:
                with self.subTest(call=call.__name__, handed=handed):
                    trial(call, deepcopy(handed))

    def test_nothing_handed_in_is_changed(self):
        def trial(call, handed):
            before = deepcopy(handed)
            call(*handed)
            self.assertEqual(handed, before)

        self.try_each(trial)

    def test_every_told_list_is_new(self):
        def trial(call, handed):
            first, second = call(*handed), call(*handed)
            self.assertEqual(first, second)
            every = lists_in(handed) + lists_in(first) + lists_in(second)
            self.assertEqual(len({id(one) for one in every}), len(every))

        self.try_each(trial)

    def test_one_list_handed_in_twice(self):
        for call, rest in ((parting, ()), (meets, (2,)), (near, ((3, 1),)), (smoothness, (4,)), (same, ())):
            for curve in (ONE_SEAT, FOUR_SEATS, CLOSED):
                handed = plain_curve(curve)
                told = call(handed, handed, *rest)
                self.assertEqual(handed, plain_curve(curve))
                self.assertEqual(told, call(plain_curve(curve), plain_curve(curve), *rest))

    def test_changing_a_told_list_changes_nothing_else(self):
        def trial(call, handed):
            before = deepcopy(handed)
            first, second = call(*handed), call(*handed)
            kept = deepcopy(second)
            spoil(first)
            self.assertEqual(handed, before)
            self.assertEqual(second, kept)
            self.assertEqual(call(*handed), kept)
            self.assertEqual(call(*deepcopy(before)), kept)

        self.try_each(trial)

    def test_changing_what_was_handed_in_changes_nothing_told(self):
        def trial(call, handed):
            before = deepcopy(handed)
            told = call(*handed)
            kept = deepcopy(told)
            spoil(handed)
            self.assertEqual(told, kept)
            self.assertEqual(call(*before), kept)

        self.try_each(trial)


if __name__ == "__main__":
    unittest.main()
