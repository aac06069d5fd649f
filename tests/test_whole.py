"""The promise over the whole program: the same points, in whatever way they are found."""

import unittest
from fractions import Fraction

from curveseat.curves import point, polar, rows, weights
from curveseat.cuts import cut, stretch, turned
from curveseat.desk import Desk
from curveseat.errors import TooMany
from curveseat.hulls import box, hull, in_hull
from curveseat.joins import onward, smoothness
from curveseat.maps import back, map_point, mapped
from curveseat.meets import meets, near, stretches
from curveseat.partings import parting
from curveseat.paths import Path
from curveseat.powers import of_powers, powers
from curveseat.raising import least, lowered, raised, same
from curveseat.smooths import through
from curveseat.texts import read_curve, read_path, show_curve, show_path, show_point
from tests.samples import ALL_ALIKE, CLOSED, CURVES, FOUR_SEATS, HUNDRED, HUNDRED_FIGURES, INSIDE, LADDER, SOME_ALIKE
from tests.samples import THIRTY_FIGURES, TIMES, TWELVE_SEATS, TWO_SEATS, PartingCase, by_powers, fractions_of, plain
from tests.samples import plain_curve, weighted

MAP = ((2, 1), (1, 3), (-1, 2), (5, 1), (7, 1), (-3, 4))
SMALL = (TWO_SEATS, FOUR_SEATS, SOME_ALIKE, CLOSED, LADDER[7], THIRTY_FIGURES)


def led_to(curve, t, place):
    """The curve, led on so that its point at t is a place."""
    x, y = weighted(curve, t)
    return tuple((place[0] + u - x, place[1] + v - y) for u, v in curve)


class SamePoints(PartingCase):
    def assert_everywhere(self, curve, told, way):
        """That the told curve has at way(t) the point that the curve has at t."""
        for t in TIMES[:13]:
            self.assert_pair(point(told, plain(way(t))), weighted(curve, t))

    def test_by_going_between_by_weights_by_polar_points_and_by_powers(self):
        for curve in CURVES + (HUNDRED_FIGURES,):
            handed = plain_curve(curve)
            some = fractions_of(powers(handed))
            for t in TIMES:
                expected = weighted(curve, t)
                self.assert_pair(point(handed, plain(t)), expected)
                self.assert_pair(rows(handed, plain(t))[-1][0], expected)
                self.assert_pair(polar(handed, [plain(t)] * (len(curve) - 1)), expected)
                self.assertTrue(by_powers(some, t) == expected)
                shares = [Fraction(*one) for one in weights(len(curve) - 1, plain(t))]
                self.assertTrue(sum(one * seat[0] for one, seat in zip(shares, curve)) == expected[0])

    def test_on_halves_stretches_and_curves_turned(self):
        for curve in CURVES:
            handed = plain_curve(curve)
            first, second = cut(handed, (1, 2))
            self.assert_everywhere(curve, first, lambda t: 2 * t)
            self.assert_everywhere(curve, second, lambda t: 2 * t - 1)
            self.assert_everywhere(curve, turned(handed), lambda t: 1 - t)
            self.assert_everywhere(curve, stretch(handed, (-1, 1), (3, 2)), lambda t: (t + 1) / Fraction(5, 2))
            for i, part in enumerate(stretches(handed, 2)):
                self.assert_everywhere(curve, part, lambda t: 4 * t - i)

    def test_on_raised_lowered_and_least_curves(self):
        for curve in CURVES:
            if len(curve) < 12:
                higher = raised(plain_curve(curve))
                for told in (higher, lowered(higher), least(higher), of_powers(powers(higher))):
                    self.assert_everywhere(curve, told, lambda t: t)
                    self.assertIs(same(told, plain_curve(curve)), True)

    def test_on_maps_paths_texts_and_the_desk(self):
        for curve in CURVES:
            handed = plain_curve(curve)
            desk = Desk()
            desk.say(f"curve a {show_curve(handed)}")
            path = Path([handed])
            for t in INSIDE:
                place = point(handed, plain(t))
                self.assertEqual(point(mapped(handed, MAP), plain(t)), map_point(MAP, place))
                self.assertEqual(point(mapped(mapped(handed, MAP), back(MAP)), plain(t)), place)
                self.assertEqual(path.point(plain(t)), place)
                self.assertEqual(point(read_curve(show_curve(handed)), plain(t)), place)
                self.assertEqual(desk.say(f"point a {t}"), show_point(place))

    def test_same_just_where_all_points_are_the_same(self):
        for one in SMALL:
            for other in SMALL + (ALL_ALIKE,):
                # As many shares as the most seats settle it.
                everywhere = all(weighted(one, t) == weighted(other, t) for t in TIMES[:12])
                self.assertIs(same(plain_curve(one), plain_curve(other)), everywhere)


class Within(PartingCase):
    def test_parts_lie_in_the_hull_and_the_box(self):
        for curve in SMALL + (TWELVE_SEATS,):
            handed = plain_curve(curve)
            corners = hull(handed)
            left, low, right, high = [Fraction(*one) for one in box(handed)]
            for part in stretches(handed, 3):
                for place in part:
                    self.assertIs(in_hull(corners, place), True)
                    x, y = Fraction(*place[0]), Fraction(*place[1])
                    self.assertTrue(left <= x <= right and low <= y <= high)
                    self.assertEqual(parting(handed, [place])[0], "common")


class Meeting(PartingCase):
    def test_a_told_pair_has_each_place_where_curves_meet(self):
        asked = 0
        for one in SMALL:
            for other in SMALL:
                for s, t in ((Fraction(1, 3), Fraction(4, 5)), (Fraction(0), Fraction(1, 2)), (Fraction(5, 8), Fraction(1))):
                    led = led_to(other, t, weighted(one, s))
                    for level in (0, 1, 3, 5):
                        try:
                            pairs, thrown = meets(plain_curve(one), plain_curve(led), level)
                        except TooMany:
                            continue
                        many = 2 ** level
                        self.assertTrue(any(i <= s * many <= i + 1 and j <= t * many <= j + 1 for i, j in pairs))
                        asked += 1
        self.assertGreater(asked, 300)

    def test_near_places_have_boxes_of_the_asked_smallness_with_the_point(self):
        asked = 0
        for one in (TWO_SEATS, FOUR_SEATS, CLOSED):
            for other in (TWO_SEATS, FOUR_SEATS, SOME_ALIKE):
                s, t = Fraction(2, 5), Fraction(3, 7)
                place = weighted(one, s)
                for nearness in (Fraction(2), Fraction(1, 2), Fraction(1, 3)):
                    try:
                        level, places = near(plain_curve(one), plain_curve(led_to(other, t, place)), plain(nearness))
                    except TooMany:
                        continue
                    many = 2 ** level
                    found = [common for i, j, common in places if i <= s * many <= i + 1 and j <= t * many <= j + 1]
                    self.assertGreater(len(found), 0)
                    for common in found:
                        left, low, right, high = [Fraction(*side) for side in common]
                        self.assertTrue(left <= place[0] <= right and low <= place[1] <= high)
                    for i, j, common in places:
                        left, low, right, high = [Fraction(*side) for side in common]
                        self.assertTrue(0 <= right - left <= nearness and 0 <= high - low <= nearness)
                    asked += 1
        self.assertGreater(asked, 10)


class Joining(PartingCase):
    def test_joined_curves_have_the_smoothness_told_and_just_this(self):
        for curve in (TWO_SEATS, FOUR_SEATS, LADDER[6]):
            for many in (2, 4, 7):
                for k in range(many - 1):
                    begin = onward(plain_curve(curve), many, k)
                    exact = onward(plain_curve(curve), many, k + 1)[-1]
                    beside = (exact[0], plain(Fraction(*exact[1]) + Fraction(1, HUNDRED)))
                    joined = begin + [beside] * (many - k - 1)
                    self.assertEqual(smoothness(plain_curve(curve), joined, 11), k)

    def test_smooth_curves_make_a_path_that_is_written_and_read(self):
        curves = through(plain_curve(TWELVE_SEATS[:10]))
        text = show_path(Path(curves))
        self.assertEqual(read_path(text).curves(), curves)
        self.assertEqual(show_path(read_path(text)), text)


if __name__ == "__main__":
    unittest.main()
