import unittest
from fractions import Fraction
from itertools import combinations

from curveseat.curves import point
from curveseat.hulls import box, hull, in_hull
from tests.samples import CURVES, HUNDRED, HUNDRED_FIGURES, HUNDRED_ROUND, INSIDE, THIRTY, TOLD, TOLD_OTHER
from tests.samples import ShareCase, fractions_of, plain, plain_curve, plain_pair, seats


def side(one, other, third):
    """The cross of the step from the one to the other and of the step from the one to the third."""
    return (other[0] - one[0]) * (third[1] - one[1]) - (other[1] - one[1]) * (third[0] - one[0])


def between_two(one, other, place):
    """Whether a place lies between two at some t from 0 to 1."""
    within = all(min(one[at], other[at]) <= place[at] <= max(one[at], other[at]) for at in (0, 1))
    return within and side(one, other, place) == 0


def in_triangle(corners, place):
    """Whether a place lies in a triangle, its border too; a flat triangle is left to between_two."""
    one, other, third = corners
    turn = side(one, other, third)
    sides = (side(one, other, place), side(other, third, place), side(third, one, place))
    return turn != 0 and all(turn * each >= 0 for each in sides)


def is_corner(places, place):
    """Whether a place of the list is a corner, by the document's own words."""
    unlike = sorted(set(places) - {place})
    if any(between_two(one, other, place) for one, other in combinations(unlike, 2)):
        return False
    return not any(in_triangle(three, place) for three in combinations(unlike, 3))


def scattered(many, width, begin):
    """Places of whole numbers from 0 on below the width, as good as by chance, but always the same."""
    found = []
    state = begin
    for k in range(2 * many):
        state = (state * 1103515245 + 12345) % 2 ** 31
        found.append((state >> 12) % width)
    return tuple((Fraction(x), Fraction(y)) for x, y in zip(found[::2], found[1::2]))


SQUARE = seats((0, 0), (4, 0), (4, 4), (0, 4))
ROUND = seats((0, -5), (3, -4), (4, -3), (5, 0), (4, 3), (3, 4), (0, 5), (-3, 4), (-4, 3), (-5, 0), (-4, -3), (-3, -4))
# The whole numbers near y = x x, forty of them, each one a corner.
BOWL = seats(*[(k, k * k) for k in range(-20, 20)])
FAR = Fraction(THIRTY * 10)
NEAR_FAR_OUT = tuple((FAR + x, -FAR + y) for x, y in seats((0, 0), (3, 0), (2, 1), (1, 1), (1, 2), (0, 3), (1, 0)))
HAIR = Fraction(1, HUNDRED_ROUND)
LINES = (
    seats((0, 0), (1, 1), (2, 2)), seats((2, 5), (2, -1), (2, 3), (2, 3)), seats((7, 1), (-7, 1), (0, 1), (2, 1)),
    seats((3, 0), (0, 3), (1, 2), (2, 1)), seats((-4, 6), (2, -3), (0, 0), (4, -6), (0, 0), bottom=7),
    seats((1, 1), (1, 1), (5, 2)),
    tuple((FAR + k * THIRTY, FAR * 3 - 7 * k) for k in (5, 2, 9, 0, 4)),
    tuple((Fraction(k, HUNDRED), Fraction(3 * k + 1, HUNDRED)) for k in (2, -1, 7, 5)),
)
SCATTERED = tuple(
    scattered(many, width, 11 * many + width)
    for many, width in ((2, 3), (3, 3), (3, 9), (4, 4), (5, 3), (6, 5), (8, 4), (9, 30), (12, 6), (14, 100), (16, 9))
)
HEAPS = LINES + SCATTERED + (
    SQUARE, ROUND, NEAR_FAR_OUT, seats((2, 3)), seats((2, 3), (2, 3), (2, 3), bottom=5),
    seats((0, 0), (5, 1), (2, 6)), seats((0, 0), (2, 6), (5, 1)), SQUARE + SQUARE[::-1],
    SQUARE + seats((2, 0), (4, 1), (1, 4), (0, 3), (2, 2), (2, 0)), HUNDRED_FIGURES,
    tuple((y * THIRTY + x / 7, x - y / THIRTY) for x, y in ROUND[::2] + SCATTERED[6]),
)


def as_corners(places):
    """The hull of pairs of fractions, as the program tells it, in fractions again."""
    return fractions_of(hull(plain_curve(places)))


class Hull(ShareCase):
    def test_one_point_and_points_all_alike(self):
        for many in (1, 2, 3, 40):
            self.assertEqual(hull([((2, 3), (-1, 5))] * many), [((2, 3), (-1, 5))])

    def test_two_points(self):
        one, other = ((1, 2), (3, 1)), ((2, 3), (-1, 1))
        self.assertEqual(hull([one, other]), [one, other])
        self.assertEqual(hull([other, one]), [one, other])
        self.assertEqual(hull([((1, 2), (3, 1)), ((1, 2), (-1, 1))]), [((1, 2), (-1, 1)), ((1, 2), (3, 1))])

    def test_one_line(self):
        for places in LINES:
            for order in (places, places[::-1], places * 2):
                self.assertEqual(as_corners(order), [min(places), max(places)])

    def test_triangle_in_any_order(self):
        one, other, third = seats((0, 0), (5, 1), (2, 6), bottom=3)
        for order in ((one, other, third), (other, third, one), (third, other, one), (one, third, other, one)):
            self.assertEqual(as_corners(order), [one, other, third])

    def test_square_with_points_on_its_border_and_within(self):
        more = seats((2, 0), (4, 1), (1, 4), (0, 3), (2, 2), (1, 3))
        self.assertEqual(as_corners(SQUARE), list(SQUARE))
        self.assertEqual(as_corners(more + SQUARE[::-1]), list(SQUARE))
        self.assertEqual(as_corners(SQUARE + more + SQUARE), list(SQUARE))

    def test_begins_with_the_least_of_alike_x(self):
        places = seats((0, 5), (3, 9), (0, 1), (3, 0), (0, 3))
        self.assertEqual(as_corners(places), list(seats((0, 1), (3, 0), (3, 9), (0, 5))))

    def test_corners_by_the_words_of_the_document(self):
        for places in HEAPS:
            told = as_corners(places)
            self.assertEqual(len(set(told)), len(told))
            self.assertEqual(sorted(told), sorted(place for place in set(places) if is_corner(places, place)))

    def test_least_first_and_round_to_the_left(self):
        for places in HEAPS + (BOWL,):
            told = as_corners(places)
            self.assertEqual(told[0], min(places))
            if len(told) > 2:
                for one, other, third in zip(told, told[1:] + told[:1], told[2:] + told[:2]):
                    self.assertGreater(side(one, other, third), 0)
            # Once round and no more: as seen from the first one, all others too follow to the left.
            for other, third in combinations(told[1:], 2):
                self.assertGreater(side(told[0], other, third), 0)

    def test_form(self):
        for places in HEAPS:
            told = hull(plain_curve(places))
            self.assert_curve_form(told, len(told))

    def test_forty_points(self):
        self.assertEqual(as_corners(BOWL), list(BOWL))
        self.assertEqual(as_corners(BOWL[::-1]), list(BOWL))
        mixed = tuple(BOWL[k * 17 % 40] for k in range(40))
        self.assertEqual(as_corners(mixed), list(BOWL))
        many = scattered(40, 25, 5)
        self.assertEqual(sorted(as_corners(many)), sorted(place for place in set(many) if is_corner(many, place)))

    def test_order_of_the_list_is_no_matter(self):
        for places in HEAPS:
            for begin in range(len(places)):
                order = places[begin:] + places[:begin]
                self.assertEqual(as_corners(order), as_corners(places))
                self.assertEqual(as_corners(order[::-1]), as_corners(places))

    def test_near_one_another_far_out(self):
        corners = [(FAR + x, -FAR + y) for x, y in seats((0, 0), (3, 0), (0, 3))]
        self.assertEqual(as_corners(NEAR_FAR_OUT), corners)

    def test_a_hair_off_the_line(self):
        one, other = seats((0, 0), (2, 2))
        for up, expected in ((HAIR, 3), (-HAIR, 3), (0, 2)):
            self.assertEqual(len(as_corners((one, other, (Fraction(1), 1 + up)))), expected)

    def test_told_numbers_are_taken_again(self):
        one = (Fraction(TOLD, TOLD_OTHER), Fraction(1, TOLD))
        other, third = (Fraction(TOLD), Fraction(2)), (Fraction(TOLD), Fraction(TOLD_OTHER, 2))
        middle = tuple((one[at] + other[at] + third[at]) / 3 for at in (0, 1))
        self.assertTrue(as_corners((middle, third, other, one)) == [one, other, third])


class InHull(ShareCase):
    def assert_in(self, corners, place, expected):
        self.assertIs(in_hull(plain_curve(corners), plain_pair(place)), expected)

    def test_one_corner(self):
        corner = (Fraction(2, 3), Fraction(-1))
        self.assert_in((corner,), corner, True)
        x, y = corner
        for place in ((x, y + HAIR), (x - HAIR, y), (y, x)):
            self.assert_in((corner,), place, False)

    def test_two_corners(self):
        for places in LINES:
            one, other = as_corners(places)
            for t in INSIDE:
                on_it = tuple(one[at] + t * (other[at] - one[at]) for at in (0, 1))
                self.assert_in((one, other), on_it, True)
                for hair in (HAIR, -HAIR):
                    beside = (on_it[0] + hair * (one[1] - other[1]), on_it[1] + hair)
                    self.assert_in((one, other), beside, False)
            for t in (-HAIR, 1 + HAIR, Fraction(-1), Fraction(2)):
                beyond = tuple(one[at] + t * (other[at] - one[at]) for at in (0, 1))
                self.assert_in((one, other), beyond, False)
            for place in places:
                self.assert_in((one, other), place, True)

    def test_upright_and_level_pairs(self):
        upright, level = seats((2, -1), (2, 5)), seats((-7, 1), (7, 1))
        for place, expected in (((2, -1), True), ((2, 5), True), ((2, 0), True), ((2, 6), False), ((2, -2), False)):
            self.assert_in(upright, seats(place)[0], expected)
        for place, expected in (((-7, 1), True), ((7, 1), True), ((0, 1), True), ((8, 1), False), ((-8, 1), False)):
            self.assert_in(level, seats(place)[0], expected)
        self.assert_in(upright, seats((3, 0))[0], False)
        self.assert_in(level, seats((0, 2))[0], False)

    def test_square(self):
        for x in range(-2, 7):
            for y in range(-2, 7):
                self.assert_in(SQUARE, seats((x, y))[0], 0 <= x <= 4 and 0 <= y <= 4)

    def test_corners_border_and_near_it(self):
        for places in HEAPS + (BOWL,):
            corners = as_corners(places)
            if len(corners) < 3:
                continue
            for one, other in zip(corners, corners[1:] + corners[:1]):
                self.assert_in(corners, one, True)
                for t in (Fraction(1, 2), Fraction(1, THIRTY)):
                    border = tuple(one[at] + t * (other[at] - one[at]) for at in (0, 1))
                    self.assert_in(corners, border, True)
                    away = (other[1] - one[1], one[0] - other[0])
                    self.assert_in(corners, tuple(border[at] + HAIR * away[at] for at in (0, 1)), False)
                for t in (-HAIR, 1 + HAIR):
                    self.assert_in(corners, tuple(one[at] + t * (other[at] - one[at]) for at in (0, 1)), False)

    def test_within(self):
        for places in HEAPS + (BOWL,):
            corners = as_corners(places)
            middle = tuple(sum(one[at] for one in corners) / len(corners) for at in (0, 1))
            self.assert_in(corners, middle, True)
            for place in places:
                self.assert_in(corners, place, True)

    def test_against_the_words_of_the_document(self):
        for places in SCATTERED:
            corners = as_corners(places)
            for place in SCATTERED[8] + SCATTERED[9] + seats((5, 7), (9, 4), (1, 11), bottom=3):
                if len(corners) == 1:
                    expected = place == corners[0]
                elif len(corners) == 2:
                    expected = between_two(corners[0], corners[1], place)
                else:
                    beside = zip(corners, corners[1:] + corners[:1])
                    expected = all(side(one, other, place) >= 0 for one, other in beside)
                self.assert_in(corners, place, expected)

    def test_told_numbers_are_taken_again(self):
        corners = (
            (Fraction(1, TOLD), Fraction(0)), (Fraction(TOLD), Fraction(1, TOLD_OTHER)), (Fraction(1), Fraction(TOLD)),
        )
        middle = tuple(sum(one[at] for one in corners) / 3 for at in (0, 1))
        self.assert_in(corners, middle, True)
        self.assert_in(corners, (Fraction(0), Fraction(0)), False)


class Box(ShareCase):
    def assert_box(self, places):
        told = box(plain_curve(places))
        self.assertIs(type(told), tuple)
        self.assertEqual(len(told), 4)
        xs, ys = [place[0] for place in places], [place[1] for place in places]
        for one, expected in zip(told, (min(xs), min(ys), max(xs), max(ys))):
            self.assert_share(one, expected)

    def test_written_ones(self):
        self.assertEqual(box([((1, 2), (-3, 1))]), ((1, 2), (-3, 1), (1, 2), (-3, 1)))
        points = [((1, 2), (-3, 1)), ((-1, 3), (2, 5)), ((1, 3), (1, 1)), ((-1, 2), (-7, 2))]
        self.assertEqual(box(points), ((-1, 2), (-7, 2), (1, 2), (1, 1)))

    def test_least_and_greatest(self):
        for places in HEAPS + CURVES + (BOWL, BOWL[::-1]):
            self.assert_box(places)

    def test_either_sign(self):
        for x, y in ((1, 1), (1, -1), (-1, 1), (-1, -1)):
            self.assert_box([(x * (1 + one[0]), y * (2 + one[1])) for one in SCATTERED[9]])

    def test_alike_ones(self):
        for many in (2, 40):
            self.assertEqual(box([((-1, 3), (5, 7))] * many), ((-1, 3), (5, 7), (-1, 3), (5, 7)))

    def test_told_numbers_are_taken_again(self):
        one, other = Fraction(TOLD, TOLD_OTHER), Fraction(TOLD + 1, TOLD_OTHER)
        self.assert_box(((one, Fraction(-TOLD)), (other, Fraction(1, TOLD))))


class CurvesWithin(ShareCase):
    def test_from_nought_to_one_a_curve_lies_in_the_hull_and_the_box(self):
        for curve in CURVES + (HUNDRED_FIGURES, ROUND):
            handed = plain_curve(curve)
            corners = hull(handed)
            left, low, right, high = (Fraction(*one) for one in box(handed))
            for t in INSIDE + (Fraction(HUNDRED, 10 * HUNDRED_ROUND),):
                place = point(handed, plain(t))
                self.assertIs(in_hull(corners, place), True)
                x, y = Fraction(*place[0]), Fraction(*place[1])
                self.assertTrue(left <= x <= right and low <= y <= high)


if __name__ == "__main__":
    unittest.main()
