import unittest
from fractions import Fraction

from curveseat.powers import powers
from curveseat.raising import raised
from curveseat.speeds import speed
from tests.samples import ALL_ALIKE, CURVES, FOUR_SEATS, HUNDRED_FIGURES, ONE_SEAT, TIMES, TWELVE_SEATS
from tests.samples import ShareCase, by_powers, fractions_of, plain_curve

NOUGHT = ((0, 1), (0, 1))
LONGER = tuple(curve for curve in CURVES if len(curve) > 1) + (HUNDRED_FIGURES,)


def speed_of(curve):
    """The speed in fractions, as the document tells it."""
    n = len(curve) - 1
    return [(n * (other[0] - one[0]), n * (other[1] - one[1])) for one, other in zip(curve, curve[1:])]


def powers_on(some):
    """The powers times their numbers, without the first one."""
    return [(k * one[0], k * one[1]) for k, one in enumerate(some)][1:]


class Speed(ShareCase):
    def test_written_ones(self):
        curve = [((0, 1), (0, 1)), ((1, 1), (2, 1)), ((2, 1), (0, 1))]
        self.assertEqual(speed(curve), [((2, 1), (4, 1)), ((2, 1), (-4, 1))])
        self.assertEqual(speed([((1, 2), (3, 1)), ((-1, 3), (1, 4))]), [((-5, 6), (-11, 4))])
        self.assertEqual(speed(plain_curve(FOUR_SEATS)), [
            ((3, 1), (12, 1)), ((12, 1), (-3, 1)), ((3, 1), (-15, 1)),
        ])

    def test_one_seat_has_the_speed_nought(self):
        for curve in (plain_curve(ONE_SEAT), [NOUGHT]):
            told = speed(curve)
            self.assertEqual(told, [NOUGHT])
            self.assert_curve_form(told, 1)
            self.assertEqual(speed(told), [NOUGHT])

    def test_steps_from_seat_to_seat(self):
        self.assertEqual({len(curve) for curve in LONGER}, set(range(2, 13)))
        for curve in LONGER:
            self.assert_curve(speed(plain_curve(curve)), speed_of(curve))

    def test_powers_times_their_numbers(self):
        for curve in LONGER:
            handed = plain_curve(curve)
            some = powers_on(fractions_of(powers(handed)))
            self.assert_curve(powers(speed(handed)), some)
            self.assert_on(speed(handed), lambda t: by_powers(some, t), TIMES[:12])

    def test_speed_of_a_speed(self):
        for curve in LONGER:
            if len(curve) > 2:
                self.assert_curve(speed(speed(plain_curve(curve))), speed_of(speed_of(curve)))

    def test_again_and_again_it_comes_to_nought(self):
        told = plain_curve(TWELVE_SEATS)
        for many in reversed(range(1, 12)):
            told = speed(told)
            self.assert_curve_form(told, many)
            self.assertNotEqual(told, [NOUGHT] * many)
        self.assertEqual(speed(told), [NOUGHT])

    def test_seats_all_alike_stand_still(self):
        self.assertEqual(speed(plain_curve(ALL_ALIKE)), [NOUGHT] * (len(ALL_ALIKE) - 1))

    def test_of_a_raised_curve_it_is_the_speed_raised(self):
        for curve in LONGER:
            if len(curve) < 12:
                handed = plain_curve(curve)
                self.assertEqual(speed(raised(handed)), raised(speed(handed)))

    def test_whole_numbers_of_hundred_figures(self):
        far = Fraction(10 ** 99 + 7)
        curve = ((far, -far), (-far, far + 1), (far + 2, Fraction(0)))
        self.assert_curve(speed(plain_curve(curve)), speed_of(curve))


if __name__ == "__main__":
    unittest.main()
