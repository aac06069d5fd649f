import unittest
from fractions import Fraction
from itertools import combinations

from curveseat.curves import point
from curveseat.cuts import cut
from curveseat.partings import parting
from tests.samples import CURVES, FOUR_SEATS, HUNDRED, HUNDRED_FIGURES, HUNDRED_ROUND, THIRTY, TOLD, TOLD_OTHER
from tests.samples import TWELVE_SEATS, PartingCase, fractions_of, plain, plain_curve, seats
from tests.test_hulls import between_two, in_triangle, scattered, side

MILLIONTH = Fraction(1, 10 ** 6)
HAIR = Fraction(1, HUNDRED_ROUND)
SQUARE = seats((0, 0), (4, 0), (4, 4), (0, 4))
TRIANGLE = seats((0, 0), (6, 0), (0, 6))
ROUND = seats((0, -5), (3, -4), (4, -3), (5, 0), (4, 3), (3, 4), (0, 5), (-3, 4), (-4, 3), (-5, 0), (-4, -3), (-3, -4))


def moved(places, by):
    """The places, each led on by a pair."""
    return tuple((x + by[0], y + by[1]) for x, y in places)


def stretched(places, across, up):
    """The places with each x and each y taken times a fraction."""
    return tuple((x * across, y * up) for x, y in places)


def two_meet(ones, others):
    """Whether two stretches of straight lines, each told by its ends, have a point in common."""
    (a, b), (c, d) = ones, others
    if any((between_two(a, b, c), between_two(a, b, d), between_two(c, d, a), between_two(c, d, b))):
        return True
    return side(a, b, c) * side(a, b, d) < 0 and side(c, d, a) * side(c, d, b) < 0


def hulls_meet(ones, others):
    """Whether the hulls have a point in common: a point alike, one in a triangle, or two straight stretches."""
    if set(ones) & set(others):
        return True
    for within, around in ((ones, others), (others, ones)):
        if any(between_two(*two, place) for two in combinations(around, 2) for place in within):
            return True
        if any(in_triangle(three, place) for three in combinations(around, 3) for place in within):
            return True
    return any(two_meet(one, other) for one in combinations(ones, 2) for other in combinations(others, 2))


class Parting(PartingCase):
    def assert_told(self, ones, others, kind):
        """That the lists, in either order and turned, are told to be of this kind, and that it holds."""
        for one, other in ((ones, others), (others, ones), (ones[::-1], others), (ones, others[::-1])):
            self.assert_parting(parting(plain_curve(one), plain_curve(other)), one, other, kind)

    def test_one_point_each(self):
        for other in ((1, 0), (-1, 0), (0, 1), (0, -1), (2, 3), (-2, 3), (2, -3), (-2, -3)):
            self.assert_told(seats((0, 0)), seats(other), "line")
            self.assert_told(seats((5, 7), bottom=3), moved(seats((5, 7), bottom=3), seats(other)[0]), "line")
        self.assert_told(seats((5, 7), bottom=3), seats((5, 7), bottom=3), "common")
        self.assertEqual(parting([((5, 3), (7, 3))], [((5, 3), (7, 3))]), ("common", [(1, 1)], [(1, 1)]))
        self.assertEqual(parting([((0, 1), (0, 1))], [((0, 1), (0, 1))]), ("common", [(1, 1)], [(1, 1)]))

    def test_all_points_alike(self):
        for one_many in (1, 2, 3, 12):
            for other_many in (1, 2, 12):
                one = seats((2, -1), bottom=5)
                self.assert_told(one * one_many, one * other_many, "common")
                for by in ((HAIR, 0), (0, HAIR), (-HAIR, HAIR), (3, -4)):
                    self.assert_told(one * one_many, moved(one, by) * other_many, "line")

    def test_points_on_one_line(self):
        for way in ((1, 0), (0, 1), (3, 2), (-2, 5)):
            x, y = way
            def on_line(*places):
                return tuple((x * Fraction(place), y * Fraction(place)) for place in places)
            self.assert_told(on_line(0, 2, 1), on_line(3, 4), "line")
            self.assert_told(on_line(0, 2, 1), on_line(2 + MILLIONTH), "line")
            self.assert_told(on_line(0, 2, 1), on_line(2, 5, 3), "common")
            self.assert_told(on_line(0, 2, 1), on_line(1, 5), "common")
            self.assert_told(on_line(0, 5), on_line(2, 3, 3), "common")
            self.assert_told(on_line(0, 5, 0), on_line(5), "common")
            self.assert_told(on_line(0, 5), on_line(Fraction(1, 3)), "common")
            self.assert_told(on_line(0, 5), on_line(0, 5), "common")
            self.assert_told(on_line(0, 5), moved(on_line(-1, 7), (y * HAIR, -x * HAIR)), "line")

    def test_straight_stretches_that_cross_touch_or_miss(self):
        flat = seats((0, 0), (4, 0))
        self.assert_told(flat, seats((1, -1), (3, 2)), "common")
        self.assert_told(flat, seats((1, 0), (3, 2)), "common")
        self.assert_told(flat, seats((4, 0), (4, 2)), "common")
        self.assert_told(flat, seats((4, -1), (4, 2)), "common")
        self.assert_told(flat, moved(seats((1, 0), (3, 2)), (0, MILLIONTH)), "line")
        self.assert_told(flat, moved(seats((4, -1), (4, 2)), (MILLIONTH, 0)), "line")
        self.assert_told(flat, seats((5, -1), (3, 3)), "line")
        self.assert_told(seats((0, 0), (7, 7)), seats((1, 0), (8, 7)), "line")

    def test_a_point_at_a_corner_or_on_the_border(self):
        for places in (SQUARE, TRIANGLE, ROUND, moved(ROUND, (THIRTY, Fraction(1, THIRTY)))):
            for one, other in zip(places, places[1:] + places[:1]):
                self.assert_told(places, (one,), "common")
                for t in (Fraction(1, 2), Fraction(1, THIRTY), Fraction(2, 3)):
                    border = tuple(one[at] + t * (other[at] - one[at]) for at in (0, 1))
                    self.assert_told(places, (border,), "common")
                    out = (other[1] - one[1], one[0] - other[0])
                    self.assert_told(places, (border, moved((border,), out)[0]), "common")

    def test_apart_by_as_little_as_one_over_a_million(self):
        for places in (SQUARE, TRIANGLE, ROUND):
            for one, other in zip(places, places[1:] + places[:1]):
                out = (other[1] - one[1], one[0] - other[0])
                size = abs(out[0]) + abs(out[1])
                for t in (Fraction(0), Fraction(1), Fraction(1, 2), Fraction(1, 7)):
                    border = tuple(one[at] + t * (other[at] - one[at]) for at in (0, 1))
                    for gap in (MILLIONTH, HAIR):
                        off = moved((border,), (gap * out[0] / size, gap * out[1] / size))
                        self.assert_told(places, off, "line")
                        self.assert_told(places, off + moved(off, out), "line")
                        inwards = moved((border,), (-gap * out[0] / size, -gap * out[1] / size))
                        self.assert_told(places, inwards + moved(off, out), "common")

    def test_side_by_side(self):
        for by, kind in (((4, 0), "common"), ((4 + MILLIONTH, 0), "line"), ((4, 4), "common"), ((0, -4), "common"),
                         ((4 + MILLIONTH, 4), "line"), ((4, 4 + MILLIONTH), "line"), ((2, -4 - HAIR), "line")):
            self.assert_told(SQUARE, moved(SQUARE, by), kind)
        turned = seats((6, 0), (6, 6), (0, 6))
        self.assert_told(TRIANGLE, turned, "common")
        self.assert_told(TRIANGLE, moved(turned, (MILLIONTH, 0)), "line")
        self.assert_told(TRIANGLE, moved(turned, (MILLIONTH, -MILLIONTH)), "common")

    def test_one_within_the_other(self):
        self.assert_told(ROUND, seats((0, 0)), "common")
        self.assert_told(ROUND, seats((0, 0), (1, 0), (0, 1)), "common")
        self.assert_told(stretched(ROUND, 3, 3), ROUND, "common")
        self.assert_told(SQUARE, seats((1, 1), (3, 3), (1, 3), (2, 2)), "common")
        self.assert_told(SQUARE, stretched(SQUARE, HAIR, HAIR), "common")

    def test_both_the_same(self):
        for places in (SQUARE, TRIANGLE, ROUND, seats((1, 2)), seats((1, 2), (3, 5)), HUNDRED_FIGURES) + CURVES:
            self.assert_told(places, places, "common")

    def test_no_corner_of_one_in_the_other(self):
        self.assert_told(seats((-9, -1), (9, -1), (9, 1), (-9, 1)), seats((-1, -9), (1, -9), (1, 9), (-1, 9)), "common")
        self.assert_told(seats((0, 0), (9, 1)), seats((4, 9), (5, -9)), "common")

    def test_numbers_of_thirty_figures(self):
        far = (Fraction(THIRTY * 7), Fraction(-THIRTY, 11))
        for places in (SQUARE, ROUND, TWELVE_SEATS):
            one = moved(stretched(places, Fraction(THIRTY, 7), Fraction(1, THIRTY)), far)
            left, low = min(x for x, y in one), min(y for x, y in one)
            right, high = max(x for x, y in one), max(y for x, y in one)
            for gap, kind in ((0, "common"), (Fraction(1, THIRTY), "line")):
                self.assert_told(one, tuple((2 * right + gap - x, y) for x, y in one), kind)
                self.assert_told(one, tuple((x, 2 * low - gap - y) for x, y in one), kind)
            self.assert_told(one, ((left, low), (right, high)), "common")
        slope = (Fraction(THIRTY + 1, THIRTY), Fraction(THIRTY + 2, THIRTY + 1))
        line = tuple((k * slope[0], k * slope[1]) for k in (-5, 3, 8))
        self.assert_told(line, (slope, stretched((slope,), 2, 2)[0]), "common")
        self.assert_told(line, ((slope[0], slope[1] + Fraction(1, THIRTY)),), "line")

    def test_small_lists_against_their_hulls(self):
        kinds = []
        for many in range(1, 7):
            for other_many in range(1, 5):
                for begin in range(12):
                    ones = scattered(many, 5, 17 * begin + many)
                    others = moved(scattered(other_many, 4, 31 * begin + other_many + 1000), (begin % 5, begin % 3))
                    kind = "common" if hulls_meet(ones, others) else "line"
                    self.assert_told(ones, others, kind)
                    kinds.append(kind)
        self.assertGreater(kinds.count("line"), 50)
        self.assertGreater(kinds.count("common"), 50)

    def test_twelve_points_each(self):
        # What is told of either kind proves itself: so the kind is taken as told.
        kinds = []
        for begin in range(120):
            ones = scattered(12, 40, begin)
            others = moved(scattered(12, 40, begin + 500), (begin % 40 + 10, begin // 3))
            kinds.append(parting(plain_curve(ones), plain_curve(others))[0])
            self.assert_told(ones, others, kinds[-1])
        self.assertGreater(kinds.count("line"), 20)
        self.assertGreater(kinds.count("common"), 20)

    def test_seats_of_curves_and_their_parts(self):
        for curve in CURVES:
            first, second = cut(plain_curve(curve), (1, 3))
            self.assert_told(tuple(fractions_of(first)), tuple(fractions_of(second)), "common")
            place = fractions_of([point(plain_curve(curve), (2, 7))])
            self.assert_told(curve, tuple(place), "common")

    def test_hundred_figures(self):
        for one, other in ((HUNDRED_FIGURES[:6], HUNDRED_FIGURES[6:]), (HUNDRED_FIGURES[::2], HUNDRED_FIGURES[1::2])):
            self.assert_told(one, other, "common" if hulls_meet(one, other) else "line")
        right = max(x for x, y in HUNDRED_FIGURES)
        for gap, kind in ((0, "common"), (Fraction(1, HUNDRED), "line")):
            self.assert_told(HUNDRED_FIGURES, tuple((2 * right + gap - x, y) for x, y in HUNDRED_FIGURES), kind)

    def test_told_numbers_are_taken_again(self):
        one = (Fraction(TOLD, TOLD_OTHER), Fraction(1, TOLD))
        other, third = (Fraction(TOLD), Fraction(2)), (Fraction(TOLD), Fraction(TOLD_OTHER, 2))
        middle = tuple((one[at] + other[at] + third[at]) / 3 for at in (0, 1))
        self.assert_parting(parting(plain_curve((one, other, third)), plain_curve((middle,))),
                            (one, other, third), (middle,), "common")
        beside = (one[0] - Fraction(1, TOLD), one[1])
        self.assert_parting(parting(plain_curve((one, other, third)), plain_curve((beside,))),
                            (one, other, third), (beside,), "line")

    def test_told_shares_lead_to_the_point_told(self):
        told = parting(plain_curve(FOUR_SEATS), [point(plain_curve(FOUR_SEATS), (1, 3))])
        self.assertEqual(told[0], "common")
        self.assertEqual(told[2], [plain(Fraction(1))])


if __name__ == "__main__":
    unittest.main()
