import unittest
from fractions import Fraction

from curveseat.curves import point
from curveseat.errors import NoMap
from curveseat.maps import back, map_point, mapped, then
from tests.samples import CURVES, FRACTIONS, HUNDRED, HUNDRED_FIGURES, HUNDRED_ROUND, THIRTY, TIMES, TOLD, TOLD_OTHER
from tests.samples import ShareCase, pairs, plain, plain_curve, plain_pair


def made_of(*tops, bottom=1):
    return tuple(Fraction(top, bottom) for top in tops)


STAY = made_of(1, 0, 0, 1, 0, 0)
# These can be undone.
TURNS = (
    STAY, made_of(0, -1, 1, 0, 0, 0), made_of(1, 0, 0, 1, 3, -5), made_of(2, 0, 0, -3, 1, 1), made_of(0, 1, 1, 0, 2, 7),
    made_of(3, 4, -4, 3, 6, 2, bottom=5), made_of(1, 2, 3, 4, 5, 6), made_of(-7, 3, 2, 9, -1, 4, bottom=6),
    made_of(THIRTY, 1, -1, THIRTY, 7, THIRTY), made_of(THIRTY, THIRTY + 1, THIRTY - 1, THIRTY, 1, -1, bottom=7),
    (Fraction(HUNDRED, HUNDRED_ROUND), Fraction(-1, HUNDRED), Fraction(3), Fraction(HUNDRED_ROUND), Fraction(1, 7),
     Fraction(-HUNDRED)),
)
# These lead the plane to a line or to a point.
FLAT = (
    made_of(0, 0, 0, 0, 0, 0), made_of(0, 0, 0, 0, 3, -2), made_of(1, 0, 0, 0, 1, 1), made_of(0, 0, 0, 1, 4, 5),
    made_of(0, 1, 0, 0, 1, 2), made_of(1, 2, 2, 4, 3, 3), made_of(2, -3, -4, 6, 1, 0, bottom=5),
    made_of(1, 1, 1, 1, 0, 0),
    (Fraction(1, 2), Fraction(1, 3), Fraction(3, 4), Fraction(1, 2), Fraction(0), Fraction(9)),
    made_of(THIRTY, 2 * THIRTY, THIRTY + 1, 2 * THIRTY + 2, 1, 1), made_of(HUNDRED, HUNDRED, -HUNDRED, -HUNDRED, 0, 1),
)
MAPS = TURNS + FLAT
PLACES = pairs(FRACTIONS)


def plain_map(by):
    return tuple(plain(one) for one in by)


def led(by, place):
    """Where a map leads a pair of fractions, as the document tells it."""
    (a, b, c, d, e, f), (x, y) = by, place
    return (a * x + b * y + e, c * x + d * y + f)


class MapCase(ShareCase):
    def assert_map(self, told):
        self.assertIs(type(told), tuple)
        self.assertEqual(len(told), 6)
        for one in told:
            self.assert_form(one)


class MapPoint(MapCase):
    def test_written_ones(self):
        by = ((1, 1), (2, 1), (3, 1), (4, 1), (5, 1), (6, 1))
        self.assertEqual(map_point(by, ((1, 1), (0, 1))), ((6, 1), (9, 1)))
        self.assertEqual(map_point(by, ((0, 1), (1, 1))), ((7, 1), (10, 1)))
        self.assertEqual(map_point(by, ((1, 2), (-1, 3))), ((29, 6), (37, 6)))

    def test_against_sums(self):
        for by in MAPS:
            for place in PLACES:
                self.assert_pair(map_point(plain_map(by), plain_pair(place)), led(by, place))

    def test_told_numbers_are_taken_again(self):
        by = (Fraction(TOLD), Fraction(1, TOLD), Fraction(-2), Fraction(TOLD_OTHER, TOLD), Fraction(3), Fraction(TOLD))
        place = (Fraction(TOLD, TOLD_OTHER), Fraction(TOLD + 1))
        self.assert_pair(map_point(plain_map(by), plain_pair(place)), led(by, place))


class Mapped(MapCase):
    def test_seat_by_seat(self):
        for curve in CURVES + (HUNDRED_FIGURES,):
            for by in MAPS:
                self.assert_curve(mapped(plain_curve(curve), plain_map(by)), [led(by, seat) for seat in curve])

    def test_its_points_are_the_mapped_points(self):
        for curve in CURVES:
            for by in MAPS:
                told = mapped(plain_curve(curve), plain_map(by))
                for t in TIMES[::3]:
                    place = point(plain_curve(curve), plain(t))
                    self.assertEqual(point(told, plain(t)), map_point(plain_map(by), place))


class Then(MapCase):
    def test_written_ones(self):
        turn = ((0, 1), (-1, 1), (1, 1), (0, 1), (0, 1), (0, 1))
        move = ((1, 1), (0, 1), (0, 1), (1, 1), (3, 1), (1, 2))
        self.assertEqual(then(turn, move), ((0, 1), (-1, 1), (1, 1), (0, 1), (3, 1), (1, 2)))
        self.assertEqual(then(move, turn), ((0, 1), (-1, 1), (1, 1), (0, 1), (-1, 2), (3, 1)))

    def test_the_one_and_then_the_other(self):
        for one in MAPS:
            for other in MAPS:
                told = then(plain_map(one), plain_map(other))
                self.assert_map(told)
                for place in PLACES[::4]:
                    self.assert_pair(map_point(told, plain_pair(place)), led(other, led(one, place)))

    def test_three_places_tell_a_map(self):
        # So no other map does the same.
        for one in MAPS:
            for other in MAPS:
                (e, f), (x, y), (u, v) = (
                    led(other, led(one, place)) for place in (made_of(0, 0), made_of(1, 0), made_of(0, 1))
                )
                self.assertEqual(then(plain_map(one), plain_map(other)), plain_map((x - e, u - e, y - f, v - f, e, f)))

    def test_staying_changes_nothing(self):
        for by in MAPS:
            self.assertEqual(then(plain_map(by), plain_map(STAY)), plain_map(by))
            self.assertEqual(then(plain_map(STAY), plain_map(by)), plain_map(by))


class Back(MapCase):
    def test_written_ones(self):
        by = ((1, 1), (2, 1), (3, 1), (4, 1), (5, 1), (6, 1))
        self.assertEqual(back(by), ((-2, 1), (1, 1), (3, 2), (-1, 2), (4, 1), (-9, 2)))
        self.assertEqual(back(plain_map(STAY)), plain_map(STAY))

    def test_undone_both_ways(self):
        for by in TURNS:
            told = back(plain_map(by))
            self.assert_map(told)
            self.assertEqual(then(plain_map(by), told), plain_map(STAY))
            self.assertEqual(then(told, plain_map(by)), plain_map(STAY))
            self.assertEqual(back(told), plain_map(by))

    def test_points_and_curves_come_back(self):
        for by in TURNS:
            told = back(plain_map(by))
            for place in PLACES:
                self.assertEqual(map_point(told, plain_pair(led(by, place))), plain_pair(place))
                self.assertEqual(map_point(plain_map(by), map_point(told, plain_pair(place))), plain_pair(place))
            for curve in CURVES:
                handed = plain_curve(curve)
                self.assertEqual(mapped(mapped(handed, plain_map(by)), told), handed)

    def test_no_back(self):
        for by in FLAT:
            with self.assertRaises(NoMap):
                back(plain_map(by))

    def test_a_hair_from_flat(self):
        by = made_of(HUNDRED, HUNDRED + 1, HUNDRED - 1, HUNDRED, 1, 1)
        self.assertEqual(back(plain_map(by))[:4], plain_map(made_of(HUNDRED, -HUNDRED - 1, 1 - HUNDRED, HUNDRED)))
        with self.assertRaises(NoMap):
            back(plain_map(made_of(HUNDRED, HUNDRED + 1, HUNDRED, HUNDRED + 1, 1, 1)))


if __name__ == "__main__":
    unittest.main()
