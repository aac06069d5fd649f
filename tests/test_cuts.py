import unittest
from fractions import Fraction

from curveseat.curves import point, polar, rows
from curveseat.cuts import cut, stretch, turned
from tests.samples import ALL_ALIKE, CURVES, FOUR_SEATS, HUNDRED, HUNDRED_FIGURES, HUNDRED_ROUND, ONE_SEAT, OUTSIDE
from tests.samples import THIRTY, TIMES, TWELVE_SEATS, ShareCase, fractions_of, plain, plain_curve, weighted

ZERO = (0, 1)
UNIT = (1, 1)
CUT_AT = (
    Fraction(0), Fraction(1), Fraction(1, 2), Fraction(2, 7), Fraction(-1), Fraction(2), Fraction(-5, 3),
    Fraction(9, 4), Fraction(THIRTY, THIRTY + 1),
)
# From the one to the other: below, alike, above, whole, outside, of thirty figures.
STRETCHES = tuple(
    (Fraction(*s), Fraction(*t))
    for s, t in (
        ((1, 4), (2, 3)), ((2, 3), (1, 4)), ((1, 3), (1, 3)), ((0, 1), (0, 1)), ((1, 1), (1, 1)), ((0, 1), (1, 1)),
        ((1, 1), (0, 1)), ((-1, 1), (2, 1)), ((5, 2), (-7, 3)), ((4, 1), (4, 1)), ((1, THIRTY), (THIRTY, 7)),
    )
)
GREAT = Fraction(HUNDRED, HUNDRED_ROUND)


class Cut(ShareCase):
    def test_written_ones(self):
        curve = [((0, 1), (0, 1)), ((1, 1), (2, 1)), ((2, 1), (0, 1))]
        self.assertEqual(cut(curve, (1, 2)), (
            [((0, 1), (0, 1)), ((1, 2), (1, 1)), ((1, 1), (1, 1))],
            [((1, 1), (1, 1)), ((3, 2), (1, 1)), ((2, 1), (0, 1))],
        ))
        self.assertEqual(cut(curve, (2, 1)), (
            [((0, 1), (0, 1)), ((2, 1), (4, 1)), ((4, 1), (-8, 1))],
            [((4, 1), (-8, 1)), ((3, 1), (-2, 1)), ((2, 1), (0, 1))],
        ))

    def test_form(self):
        for curve in CURVES:
            for t in CUT_AT:
                told = cut(plain_curve(curve), plain(t))
                self.assertIs(type(told), tuple)
                self.assertEqual(len(told), 2)
                self.assert_curve_form(told[0], len(curve))
                self.assert_curve_form(told[1], len(curve))

    def test_against_the_rows(self):
        for curve in CURVES:
            for t in CUT_AT:
                told = rows(plain_curve(curve), plain(t))
                first, second = cut(plain_curve(curve), plain(t))
                self.assertEqual(first, [row[0] for row in told])
                self.assertEqual(second, [row[-1] for row in told][::-1])

    def test_points_of_the_parts(self):
        for curve in CURVES:
            for t in CUT_AT:
                first, second = cut(plain_curve(curve), plain(t))
                self.assert_on(first, lambda u: weighted(curve, t * u), TIMES[:13])
                self.assert_on(second, lambda u: weighted(curve, t + u * (1 - t)), TIMES[:13])

    def test_at_the_ends(self):
        for curve in CURVES:
            handed = plain_curve(curve)
            self.assertEqual(cut(handed, ZERO), ([handed[0]] * len(curve), handed))
            self.assertEqual(cut(handed, UNIT), (handed, [handed[-1]] * len(curve)))

    def test_one_seat_and_seats_all_alike_stay(self):
        for curve in (ONE_SEAT, ALL_ALIKE):
            for t in CUT_AT:
                self.assertEqual(cut(plain_curve(curve), plain(t)), (plain_curve(curve), plain_curve(curve)))

    def test_hundred_figures(self):
        # The parts' own numbers have more than a thousand figures, and are asked again all the same.
        first, second = cut(plain_curve(HUNDRED_FIGURES), plain(GREAT))
        self.assertGreater(first[-1][0][1], 10 ** 1000)
        for u in (Fraction(0), Fraction(1), Fraction(-2, 3), 1 / GREAT):
            self.assert_pair(point(first, plain(u)), weighted(HUNDRED_FIGURES, GREAT * u))
            self.assert_pair(point(second, plain(u)), weighted(HUNDRED_FIGURES, GREAT + u * (1 - GREAT)))


class Stretch(ShareCase):
    def test_written_ones(self):
        curve = [((0, 1), (0, 1)), ((1, 1), (2, 1)), ((2, 1), (0, 1))]
        self.assertEqual(stretch(curve, (1, 4), (3, 4)), [
            ((1, 2), (3, 4)), ((1, 1), (5, 4)), ((3, 2), (3, 4)),
        ])
        self.assertEqual(stretch(curve, (2, 1), (-1, 1)), [
            ((4, 1), (-8, 1)), ((1, 1), (10, 1)), ((-2, 1), (-8, 1)),
        ])

    def test_points(self):
        for curve in CURVES:
            for s, t in STRETCHES:
                told = stretch(plain_curve(curve), plain(s), plain(t))
                self.assert_curve_form(told, len(curve))
                self.assert_on(told, lambda u: weighted(curve, s + u * (t - s)), TIMES[:13])

    def test_seats_are_polar_points(self):
        for curve in CURVES:
            last = len(curve) - 1
            for s, t in STRETCHES:
                told = stretch(plain_curve(curve), plain(s), plain(t))
                for k in range(last + 1):
                    shares = [plain(s)] * (last - k) + [plain(t)] * k
                    self.assertEqual(told[k], polar(plain_curve(curve), shares))

    def test_the_whole_and_the_whole_turned(self):
        for curve in CURVES + (HUNDRED_FIGURES,):
            handed = plain_curve(curve)
            self.assertEqual(stretch(handed, ZERO, UNIT), handed)
            self.assertEqual(stretch(handed, UNIT, ZERO), handed[::-1])

    def test_alike_ends_have_one_point(self):
        for curve in CURVES:
            for t in TIMES:
                told = stretch(plain_curve(curve), plain(t), plain(t))
                self.assert_curve(told, [weighted(curve, t)] * len(curve))

    def test_the_other_way_is_the_stretch_turned(self):
        for curve in CURVES:
            for s, t in STRETCHES:
                there = stretch(plain_curve(curve), plain(s), plain(t))
                self.assertEqual(stretch(plain_curve(curve), plain(t), plain(s)), there[::-1])

    def test_cut_is_two_stretches(self):
        for curve in CURVES:
            for t in CUT_AT + OUTSIDE:
                handed = plain_curve(curve)
                parts = (stretch(handed, ZERO, plain(t)), stretch(handed, plain(t), UNIT))
                self.assertEqual(cut(handed, plain(t)), parts)

    def test_stretch_of_a_stretch(self):
        for curve in (ONE_SEAT, FOUR_SEATS, TWELVE_SEATS):
            for s, t in STRETCHES:
                outer = stretch(plain_curve(curve), plain(s), plain(t))
                for u, v in STRETCHES:
                    begin, end = s + u * (t - s), s + v * (t - s)
                    inner = stretch(outer, plain(u), plain(v))
                    self.assertEqual(inner, stretch(plain_curve(curve), plain(begin), plain(end)))

    def test_there_and_back(self):
        for curve in CURVES:
            for s, t in STRETCHES:
                if s != t:
                    there = stretch(plain_curve(curve), plain(s), plain(t))
                    begin, end = -s / (t - s), (1 - s) / (t - s)
                    self.assertEqual(stretch(there, plain(begin), plain(end)), plain_curve(curve))

    def test_hundred_figures(self):
        s, t = GREAT, Fraction(-1, HUNDRED)
        told = stretch(plain_curve(HUNDRED_FIGURES), plain(s), plain(t))
        self.assert_curve_form(told, 12)
        for u in (Fraction(0), Fraction(1), Fraction(1, 3)):
            self.assert_pair(point(told, plain(u)), weighted(HUNDRED_FIGURES, s + u * (t - s)))


class Turned(ShareCase):
    def test_seats_the_other_way_round(self):
        for curve in CURVES + (HUNDRED_FIGURES,):
            told = turned(plain_curve(curve))
            self.assert_curve(told, curve[::-1])

    def test_points(self):
        for curve in CURVES:
            self.assert_on(turned(plain_curve(curve)), lambda u: weighted(curve, 1 - u))

    def test_twice_is_the_curve(self):
        for curve in CURVES:
            handed = plain_curve(curve)
            told = turned(turned(handed))
            self.assertEqual(told, handed)
            self.assertIsNot(told, handed)

    def test_in_fractions(self):
        self.assertEqual(fractions_of(turned(plain_curve(FOUR_SEATS))), list(FOUR_SEATS[::-1]))


if __name__ == "__main__":
    unittest.main()
