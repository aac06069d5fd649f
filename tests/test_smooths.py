import unittest
from fractions import Fraction

from curveseat.joins import smoothness
from curveseat.smooths import through
from curveseat.speeds import speed
from tests.samples import HUNDRED_FIGURES, THIRTY, TOLD, TOLD_OTHER, TWELVE_SEATS, ShareCase, fractions_of
from tests.samples import plain_curve, seats
from tests.test_speeds import speed_of

NOUGHT = ((0, 1), (0, 1))
TEN = TWELVE_SEATS[:10]
HEAPS = tuple(TEN[:many] for many in range(2, 11)) + (
    seats((0, 0), (3, 1)), seats((0, 0), (1, 2), (2, 0)), seats((0, 0), (0, 0), (4, 1)), seats((5, 5), (1, 2), (5, 5)),
    seats((1, 1), (2, 2), (3, 3), (4, 4)), seats((2, -1), (2, 7), (2, 3), (2, 3), (2, 9)), seats((0, 3), (9, 0), (3, 2)),
    tuple((x * THIRTY, y / THIRTY) for x, y in TEN), HUNDRED_FIGURES[:10], HUNDRED_FIGURES[4:7],
)


class Through(ShareCase):
    def assert_through(self, places):
        """That all the document asks of smooth curves through these pairs of fractions holds."""
        told = through(plain_curve(places))
        self.assertIs(type(told), list)
        self.assertEqual(len(told), len(places) - 1)
        for curve, begin, end in zip(told, places, places[1:]):
            self.assert_curve_form(curve, 4)
            self.assert_pair(curve[0], begin)
            self.assert_pair(curve[-1], end)
        own = [fractions_of(curve) for curve in told]
        for one, other in zip(own, own[1:]):
            self.assertTrue(speed_of(one)[-1] == speed_of(other)[0])
            self.assertTrue(speed_of(speed_of(one))[-1] == speed_of(speed_of(other))[0])
        self.assertEqual(speed_of(speed_of(own[0]))[0], (0, 0))
        self.assertEqual(speed_of(speed_of(own[-1]))[-1], (0, 0))
        return told

    def test_ends_speeds_and_speeds_of_speeds(self):
        for places in HEAPS:
            with self.subTest(places=places):
                self.assert_through(places)

    def test_by_the_program_itself(self):
        for places in HEAPS:
            told = through(plain_curve(places))
            for one, other in zip(told, told[1:]):
                self.assertGreaterEqual(smoothness(one, other, 11), 2)
            self.assertEqual(speed(speed(told[0]))[0], NOUGHT)
            self.assertEqual(speed(speed(told[-1]))[-1], NOUGHT)

    def test_two_points_are_joined_straight(self):
        self.assertEqual(through([((0, 1), (0, 1)), ((3, 1), (-6, 1))]), [
            [((0, 1), (0, 1)), ((1, 1), (-2, 1)), ((2, 1), (-4, 1)), ((3, 1), (-6, 1))],
        ])
        one, other = HUNDRED_FIGURES[:2]
        thirds = [tuple(one[at] + Fraction(k, 3) * (other[at] - one[at]) for at in (0, 1)) for k in range(4)]
        self.assert_curve(through(plain_curve((one, other)))[0], thirds)

    def test_three_points(self):
        self.assertEqual(through([((0, 1), (0, 1)), ((1, 1), (2, 1)), ((2, 1), (0, 1))]), [
            [((0, 1), (0, 1)), ((1, 3), (1, 1)), ((2, 3), (2, 1)), ((1, 1), (2, 1))],
            [((1, 1), (2, 1)), ((4, 3), (2, 1)), ((5, 3), (1, 1)), ((2, 1), (0, 1))],
        ])

    def test_ten_points(self):
        self.assertEqual(len(self.assert_through(TEN)), 9)
        self.assertEqual(len(self.assert_through(HUNDRED_FIGURES[:10])), 9)

    def test_points_alike(self):
        for many in range(2, 11):
            place = ((2, 3), (-5, 7))
            self.assertEqual(through([place] * many), [[place] * 4] * (many - 1))
        self.assert_through(seats((1, 1), (4, 2), (4, 2), (4, 2), (0, 0)))

    def test_points_on_one_line_stay_on_it(self):
        for steps in ((0, 1, 2, 3), (5, 0, 7, 7, 1), (0, 3), (2, 9, -4)):
            places = tuple((Fraction(3 * k + 1), Fraction(1 - 2 * k, 5)) for k in steps)
            for curve in self.assert_through(places):
                for x, y in fractions_of(curve):
                    self.assertEqual(2 * (x - 1) + 15 * (y - Fraction(1, 5)), 0)

    def test_even_steps_are_walked_evenly(self):
        places = [((k, 1), (2 * k, 1)) for k in range(10)]
        for k, curve in enumerate(through(places)):
            expected = [(Fraction(3 * k + m, 3), Fraction(6 * k + 2 * m, 3)) for m in range(4)]
            self.assert_curve(curve, expected)

    def test_turned_points_have_turned_curves(self):
        for places in HEAPS:
            there, back = through(plain_curve(places)), through(plain_curve(places[::-1]))
            self.assertEqual([curve[::-1] for curve in back[::-1]], there)

    def test_told_numbers_are_taken_again(self):
        self.assert_through((
            (Fraction(TOLD, TOLD_OTHER), Fraction(1, TOLD)), (Fraction(TOLD), Fraction(-2)),
            (Fraction(1, 3), Fraction(TOLD_OTHER, 2)), (Fraction(TOLD, TOLD_OTHER), Fraction(0)),
        ))


if __name__ == "__main__":
    unittest.main()
