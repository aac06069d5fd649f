import unittest
from fractions import Fraction

from curveseat.powers import of_powers, powers
from tests.samples import ALL_ALIKE, CURVES, HUNDRED_FIGURES, LADDER, ONE_SEAT, TIMES, TOLD, TOLD_OTHER
from tests.samples import ShareCase, by_powers, fractions_of, plain_curve, seats_of_powers, weighted

# More shares than a curve has seats: a sum by powers that is right at all of them is right everywhere.
MANY_TIMES = TIMES + (Fraction(4, 9), Fraction(5), Fraction(-11, 2))


class Powers(ShareCase):
    def test_written_ones(self):
        curve = [((0, 1), (0, 1)), ((1, 1), (2, 1)), ((2, 1), (0, 1))]
        self.assertEqual(powers(curve), [((0, 1), (0, 1)), ((2, 1), (4, 1)), ((0, 1), (-4, 1))])
        self.assertEqual(powers([((1, 2), (3, 1)), ((-1, 3), (1, 4))]), [((1, 2), (3, 1)), ((-5, 6), (-11, 4))])

    def test_sum_by_powers_is_the_point(self):
        self.assertGreater(len(set(MANY_TIMES)), 12)
        for curve in CURVES + (HUNDRED_FIGURES,):
            told = powers(plain_curve(curve))
            self.assert_curve_form(told, len(curve))
            some = fractions_of(told)
            for t in MANY_TIMES:
                self.assertTrue(by_powers(some, t) == weighted(curve, t))

    def test_one_seat_is_its_own_power(self):
        self.assertEqual(powers(plain_curve(ONE_SEAT)), plain_curve(ONE_SEAT))

    def test_seats_all_alike_have_one_power(self):
        noughts = [((0, 1), (0, 1))] * (len(ALL_ALIKE) - 1)
        self.assertEqual(powers(plain_curve(ALL_ALIKE)), plain_curve(ALL_ALIKE[:1]) + noughts)


class OfPowers(ShareCase):
    def test_written_ones(self):
        some = [((0, 1), (0, 1)), ((2, 1), (4, 1)), ((0, 1), (-4, 1))]
        self.assertEqual(of_powers(some), [((0, 1), (0, 1)), ((1, 1), (2, 1)), ((2, 1), (0, 1))])
        some = [((0, 1), (1, 1)), ((0, 1), (1, 1)), ((0, 1), (1, 1)), ((1, 1), (1, 1))]
        self.assertEqual(of_powers(some), [
            ((0, 1), (1, 1)), ((0, 1), (4, 3)), ((0, 1), (2, 1)), ((1, 1), (4, 1)),
        ])

    def test_its_point_is_the_sum_by_powers(self):
        for some in CURVES + (HUNDRED_FIGURES,):
            curve = of_powers(plain_curve(some))
            self.assert_curve_form(curve, len(some))
            self.assert_on(curve, lambda t: by_powers(some, t), MANY_TIMES)

    def test_seats_against_sums_over_ways(self):
        for some in CURVES:
            self.assert_curve(of_powers(plain_curve(some)), seats_of_powers(some))

    def test_noughts_behind_are_kept_as_seats(self):
        some = [((3, 1), (1, 2)), ((0, 1), (0, 1)), ((0, 1), (0, 1))]
        self.assertEqual(of_powers(some), [((3, 1), (1, 2))] * 3)


class ThereAndBack(ShareCase):
    def test_both_ways(self):
        self.assertEqual([len(curve) for curve in LADDER], list(range(1, 13)))
        for curve in CURVES + (HUNDRED_FIGURES,):
            handed = plain_curve(curve)
            self.assertEqual(of_powers(powers(handed)), handed)
            self.assertEqual(powers(of_powers(handed)), handed)

    def test_told_numbers_are_taken_again(self):
        curve = (
            (Fraction(TOLD, TOLD_OTHER), Fraction(-TOLD_OTHER)), (Fraction(1, TOLD), Fraction(TOLD_OTHER, TOLD)),
            (Fraction(3), Fraction(TOLD + 1, TOLD_OTHER)),
        )
        handed = plain_curve(curve)
        self.assertTrue(of_powers(powers(handed)) == handed)
        self.assertTrue(powers(of_powers(handed)) == handed)


if __name__ == "__main__":
    unittest.main()
