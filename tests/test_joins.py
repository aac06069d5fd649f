import unittest
from fractions import Fraction

from curveseat.curves import point
from curveseat.cuts import cut, stretch, turned
from curveseat.joins import onward, smoothness
from curveseat.raising import raised
from curveseat.speeds import speed
from tests.samples import ALL_ALIKE, CURVES, FOUR_SEATS, HUNDRED, HUNDRED_FIGURES, LADDER, ONE_SEAT, THIRTY
from tests.samples import TWELVE_SEATS, TWO_SEATS, ShareCase, fractions_of, plain, plain_curve, seats
from tests.test_speeds import speed_of

HAIR = Fraction(1, HUNDRED)


def speeds_of(curve, most):
    """The curve, its speed, the speed of this, and so on, most times, in fractions."""
    found = [list(curve)]
    for k in range(most):
        found.append(speed_of(found[-1]) or [(Fraction(0), Fraction(0))])
    return found


def smoothness_of(one, other, most):
    """The smoothness in fractions, as the document tells it."""
    alike = [a[-1] == b[0] for a, b in zip(speeds_of(one, most), speeds_of(other, most))]
    return max([k for k in range(most + 1) if all(alike[:k + 1])], default=-1)


def nudged(curve, k):
    """The curve with its seat of number k a hair beside."""
    x, y = curve[k]
    return tuple(curve[:k]) + ((x, y + HAIR),) + tuple(curve[k + 1:])


class Smoothness(ShareCase):
    def assert_smoothness(self, one, other, most, expected):
        told = smoothness(plain_curve(one), plain_curve(other), most)
        self.assertIs(type(told), int)
        self.assertEqual(told, expected)

    def test_written_ones(self):
        one = seats((0, 0), (1, 2), (2, 0))
        for other, expected in (
            (seats((2, 1), (3, -2)), -1), (seats((2, 0), (3, 0)), 0), (seats((2, 0), (4, -4)), 1),
            (seats((2, 0), (3, -2)), 0), (seats((2, 0), (3, -2), (4, 0)), 1), (seats((2, 0), (3, -2), (4, -8)), 11),
        ):
            self.assert_smoothness(one, other, 11, expected)

    def test_no_join(self):
        for one, other in ((FOUR_SEATS, FOUR_SEATS), (ONE_SEAT, TWO_SEATS), (TWO_SEATS, ALL_ALIKE)):
            for most in (0, 1, 11):
                self.assert_smoothness(one, other, most, -1)
        x, y = FOUR_SEATS[-1]
        for beside in ((x + HAIR, y), (x, y - HAIR)):
            self.assert_smoothness(FOUR_SEATS, (beside,) + TWO_SEATS, 11, -1)
        # The last seat of the one and the first of the other count, and no others.
        self.assert_smoothness(TWO_SEATS, TWO_SEATS[:1] + FOUR_SEATS, 3, -1)

    def test_curves_of_one_seat(self):
        for most in range(12):
            self.assert_smoothness(ONE_SEAT, ONE_SEAT, most, most)
            self.assert_smoothness(ONE_SEAT, ONE_SEAT * 5, most, most)
            self.assert_smoothness(ONE_SEAT, TWO_SEATS, most, -1)
            self.assert_smoothness(ONE_SEAT, ONE_SEAT + FOUR_SEATS, most, 0)
            self.assert_smoothness(ONE_SEAT, ONE_SEAT * 3 + FOUR_SEATS, most, min(most, 2))

    def test_up_to_the_number_asked(self):
        for curve in CURVES + (HUNDRED_FIGURES,):
            first, second = cut(plain_curve(curve), (1, 3))
            # At a half both parts go at the same pace: there all speeds are alike.
            left, right = cut(plain_curve(curve), (1, 2))
            for most in (0, 1, 5, 11):
                self.assertEqual(smoothness(left, right, most), most)
                expected = smoothness_of(fractions_of(first), fractions_of(second), most)
                self.assertEqual(smoothness(first, second, most), expected)

    def test_each_number_and_just_this(self):
        for curve in (FOUR_SEATS, TWELVE_SEATS, HUNDRED_FIGURES):
            going_on = fractions_of(stretch(plain_curve(curve), (1, 1), (2, 1)))
            for k in range(len(curve)):
                # A seat of number k tells nothing of the first k - 1 speeds, but all of the next one.
                for most in range(12):
                    self.assert_smoothness(curve, nudged(going_on, k), most, min(most, k - 1))

    def test_a_speed_alike_behind_one_unlike_does_not_count(self):
        one = seats((0, 0), (1, 0), (2, 0))
        other = seats((2, 0), (2, 1), (2, 2))
        self.assertEqual(speed(speed(plain_curve(one)))[-1], speed(speed(plain_curve(other)))[0])
        self.assert_smoothness(one, other, 11, 0)

    def test_against_the_words_of_the_document(self):
        for one in CURVES:
            for other in CURVES:
                by = (one[-1][0] - other[0][0], one[-1][1] - other[0][1])
                joined = tuple((x + by[0], y + by[1]) for x, y in other)
                for most in (0, 2, 11):
                    self.assert_smoothness(one, joined, most, smoothness_of(one, joined, most))

    def test_raised_curves_are_as_smooth(self):
        for curve in LADDER[:11]:
            going_on = stretch(plain_curve(curve), (1, 1), (2, 1))
            self.assertEqual(smoothness(raised(plain_curve(curve)), going_on, 11), 11)
            self.assertEqual(smoothness(plain_curve(curve), raised(going_on), 11), 11)

    def test_turned_both_ways(self):
        for one, other in ((FOUR_SEATS, seats((6, -2), (7, -7))), (FOUR_SEATS, seats((6, -2), (7, -8), (1, 1)))):
            there = smoothness(plain_curve(one), plain_curve(other), 11)
            self.assertEqual(smoothness(turned(plain_curve(other)), turned(plain_curve(one)), 11), there)


class Onward(ShareCase):
    def assert_onward(self, curve, many, k):
        """That the told seats, with any others behind them, go on with smoothness k, and no others do."""
        told = onward(plain_curve(curve), many, k)
        self.assert_curve_form(told, k + 1)
        own = tuple(fractions_of(told))
        for more in ((own[-1],), TWELVE_SEATS, HUNDRED_FIGURES[3:4]):
            whole = own + tuple(more[at % len(more)] for at in range(many - k - 1))
            self.assertEqual(len(whole), many)
            self.assertGreaterEqual(smoothness_of(curve, whole, k), k)
            for at in range(k + 1):
                self.assertLess(smoothness_of(curve, nudged(whole, at), k), k)
        return told

    def test_written_ones(self):
        curve = plain_curve(seats((0, 0), (1, 2), (2, 0)))
        self.assertEqual(onward(curve, 1, 0), [((2, 1), (0, 1))])
        self.assertEqual(onward(curve, 3, 1), [((2, 1), (0, 1)), ((3, 1), (-2, 1))])
        self.assertEqual(onward(curve, 2, 1), [((2, 1), (0, 1)), ((4, 1), (-4, 1))])
        self.assertEqual(onward(curve, 3, 2), [((2, 1), (0, 1)), ((3, 1), (-2, 1)), ((4, 1), (-8, 1))])
        self.assertEqual(onward(curve, 4, 1), [((2, 1), (0, 1)), ((8, 3), (-4, 3))])

    def test_each_number_of_seats_and_each_k(self):
        for curve in (ONE_SEAT, TWO_SEATS, FOUR_SEATS, ALL_ALIKE, TWELVE_SEATS):
            for many in (1, 2, 3, 5, 8, 12):
                for k in range(many):
                    self.assert_onward(curve, many, k)

    def test_nought_is_the_last_seat_alone(self):
        for curve in CURVES + (HUNDRED_FIGURES,):
            for many in range(1, 13):
                self.assertEqual(onward(plain_curve(curve), many, 0), plain_curve(curve[-1:]))

    def test_one_less_than_the_seats_is_the_whole_curve(self):
        for curve in CURVES + (HUNDRED_FIGURES,):
            handed = plain_curve(curve)
            many = len(curve)
            going_on = stretch(handed, (1, 1), (2, 1))
            self.assertEqual(onward(handed, many, many - 1), going_on)
            if many < 12:
                self.assertEqual(onward(handed, many + 1, many), raised(going_on))

    def test_curves_of_one_seat_stay(self):
        for many in range(1, 13):
            for k in range(many):
                self.assertEqual(onward(plain_curve(ONE_SEAT), many, k), plain_curve(ONE_SEAT) * (k + 1))

    def test_more_of_them_begin_alike(self):
        for curve in (FOUR_SEATS, TWELVE_SEATS):
            for many in range(1, 13):
                whole = onward(plain_curve(curve), many, many - 1)
                for k in range(many):
                    self.assertEqual(onward(plain_curve(curve), many, k), whole[:k + 1])

    def test_numbers_of_thirty_and_hundred_figures(self):
        far = tuple((x * THIRTY, y / THIRTY) for x, y in FOUR_SEATS)
        for many in (1, 4, 12):
            self.assert_onward(far, many, many - 1)
            self.assert_onward(HUNDRED_FIGURES, many, many - 1)

    def test_told_curves_are_taken_again(self):
        t = plain(Fraction(HUNDRED - 1, HUNDRED))
        first, second = cut(plain_curve(HUNDRED_FIGURES), t)
        told = onward(first, 12, 11)
        self.assertEqual(point(told, (1, 1)), point(plain_curve(HUNDRED_FIGURES), plain(2 * Fraction(*t))))


if __name__ == "__main__":
    unittest.main()
