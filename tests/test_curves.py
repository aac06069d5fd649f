import unittest
from fractions import Fraction
from itertools import permutations

from curveseat.curves import point, polar, rows, weights
from tests.samples import ALL_ALIKE, CURVES, FOUR_SEATS, FRACTIONS, HUNDRED, HUNDRED_FIGURES, HUNDRED_ROUND, INSIDE
from tests.samples import LADDER, ONE_SEAT, OUTSIDE, SOME_ALIKE, THIRTY, TIMES, TOLD, TOLD_OTHER, TWELVE_SEATS
from tests.samples import TWO_SEATS, ShareCase, plain, plain_curve, plain_pair, weighted, weights_of, ways

ZERO = (0, 1)
UNIT = (1, 1)
GREAT_TIMES = (Fraction(HUNDRED, HUNDRED_ROUND), Fraction(-HUNDRED_ROUND - 1, HUNDRED), Fraction(1, HUNDRED))


def going_between(curve, shares):
    """The rows of pairs, each behind the seats made at the next one of the shares."""
    found = [list(curve)]
    for t in shares:
        ahead = found[-1]
        found.append([
            (one[0] + t * (other[0] - one[0]), one[1] + t * (other[1] - one[1]))
            for one, other in zip(ahead, ahead[1:])
        ])
    return found


class Rows(ShareCase):
    def assert_rows(self, curve, t):
        told = rows(plain_curve(curve), plain(t))
        expected = going_between(curve, [t] * (len(curve) - 1))
        self.assertIs(type(told), list)
        self.assertEqual(len(told), len(curve))
        for row, pairs in zip(told, expected):
            self.assert_curve(row, pairs)
        self.assert_pair(told[-1][0], weighted(curve, t))

    def test_written_ones(self):
        curve = [((0, 1), (0, 1)), ((1, 1), (2, 1)), ((2, 1), (0, 1))]
        self.assertEqual(rows(curve, (1, 2)), [
            curve, [((1, 2), (1, 1)), ((3, 2), (1, 1))], [((1, 1), (1, 1))],
        ])
        self.assertEqual(rows(curve, (-1, 1)), [
            curve, [((-1, 1), (-2, 1)), ((0, 1), (4, 1))], [((-2, 1), (-8, 1))],
        ])

    def test_against_going_between(self):
        for curve in CURVES:
            for t in TIMES:
                with self.subTest(many=len(curve), t=t):
                    self.assert_rows(curve, t)

    def test_hundred_figures(self):
        for t in GREAT_TIMES:
            self.assert_rows(HUNDRED_FIGURES, t)

    def test_first_row_is_the_seats_in_a_new_list(self):
        for curve in CURVES:
            handed = plain_curve(curve)
            told = rows(handed, (1, 3))
            self.assertEqual(told[0], handed)
            self.assertIsNot(told[0], handed)

    def test_last_row_is_the_point(self):
        for curve in CURVES:
            for t in TIMES:
                handed = plain_curve(curve)
                self.assertEqual(rows(handed, plain(t))[-1], [point(handed, plain(t))])

    def test_one_seat_has_one_row(self):
        for t in TIMES:
            self.assertEqual(rows(plain_curve(ONE_SEAT), plain(t)), [plain_curve(ONE_SEAT)])


class Point(ShareCase):
    def test_written_ones(self):
        curve = plain_curve(FOUR_SEATS)
        self.assertEqual(point(curve, (1, 2)), ((3, 1), (19, 8)))
        self.assertEqual(point(curve, (2, 1)), ((-6, 1), (-28, 1)))
        self.assertEqual(point(curve, (-1, 1)), ((12, 1), (-28, 1)))

    def test_sum_of_the_seats_by_their_weights(self):
        for curve in CURVES:
            for t in TIMES + FRACTIONS[:13]:
                self.assert_pair(point(plain_curve(curve), plain(t)), weighted(curve, t))

    def test_told_weights_lead_to_it(self):
        for curve in CURVES:
            for t in TIMES:
                told = [Fraction(*one) for one in weights(len(curve) - 1, plain(t))]
                pair = tuple(sum(one * seat[at] for one, seat in zip(told, curve)) for at in (0, 1))
                self.assert_pair(point(plain_curve(curve), plain(t)), pair)

    def test_ends(self):
        for curve in CURVES + (HUNDRED_FIGURES,):
            handed = plain_curve(curve)
            self.assertEqual(point(handed, ZERO), handed[0])
            self.assertEqual(point(handed, UNIT), handed[-1])

    def test_seats_all_alike_and_one_seat_stay(self):
        for curve in (ALL_ALIKE, ONE_SEAT):
            for t in TIMES:
                self.assertEqual(point(plain_curve(curve), plain(t)), plain_pair(curve[0]))

    def test_hundred_figures(self):
        for t in GREAT_TIMES:
            self.assert_pair(point(plain_curve(HUNDRED_FIGURES), plain(t)), weighted(HUNDRED_FIGURES, t))

    def test_told_numbers_are_taken_again(self):
        curve = (
            (Fraction(TOLD, TOLD_OTHER), Fraction(-TOLD_OTHER)), (Fraction(1, TOLD), Fraction(TOLD_OTHER, TOLD)),
            (Fraction(3), Fraction(TOLD + 1, TOLD_OTHER)),
        )
        for t in (Fraction(-TOLD, TOLD + 1), Fraction(TOLD), Fraction(1, 3)):
            self.assert_pair(point(plain_curve(curve), plain(t)), weighted(curve, t))


class Weights(ShareCase):
    def test_written_ones(self):
        self.assertEqual(weights(0, (5, 7)), [UNIT])
        self.assertEqual(weights(1, (1, 3)), [(2, 3), (1, 3)])
        self.assertEqual(weights(2, (1, 2)), [(1, 4), (1, 2), (1, 4)])
        self.assertEqual(weights(3, (2, 1)), [(-1, 1), (6, 1), (-12, 1), (8, 1)])
        self.assertEqual(weights(2, (-1, 2)), [(9, 4), (-3, 2), (1, 4)])

    def test_as_the_document_tells_them(self):
        for n in range(12):
            for t in TIMES + FRACTIONS:
                told = weights(n, plain(t))
                self.assertIs(type(told), list)
                self.assertEqual(len(told), n + 1)
                for one, expected in zip(told, weights_of(n, t)):
                    self.assert_share(one, expected)

    def test_ways_are_those_that_are_counted(self):
        # At a half every weight is its ways over 2 taken n times.
        for n in range(12):
            told = [Fraction(*one) * 2 ** n for one in weights(n, (1, 2))]
            self.assertEqual(told, [ways(n, k) for k in range(n + 1)])

    def test_they_come_to_one_together(self):
        for n in range(12):
            for t in TIMES + FRACTIONS:
                self.assertEqual(sum(Fraction(*one) for one in weights(n, plain(t))), 1)

    def test_none_is_below_nought_from_nought_to_one(self):
        for n in range(12):
            for t in INSIDE:
                self.assertTrue(all(one[0] >= 0 for one in weights(n, plain(t))))

    def test_some_are_below_nought_outside(self):
        for n in range(1, 12):
            for t in OUTSIDE:
                self.assertTrue(any(one[0] < 0 for one in weights(n, plain(t))))

    def test_ends(self):
        for n in range(12):
            self.assertEqual(weights(n, ZERO), [UNIT] + [ZERO] * n)
            self.assertEqual(weights(n, UNIT), [ZERO] * n + [UNIT])


class Polar(ShareCase):
    def test_written_ones(self):
        curve = [((0, 1), (0, 1)), ((1, 1), (2, 1)), ((2, 1), (0, 1))]
        self.assertEqual(polar(curve, [(0, 1), (1, 1)]), ((1, 1), (2, 1)))
        self.assertEqual(polar(curve, [(1, 2), (1, 4)]), ((3, 4), (1, 1)))
        self.assertEqual(polar(curve, [(2, 1), (-1, 1)]), ((1, 1), (10, 1)))

    def test_against_going_between(self):
        for curve in CURVES + (HUNDRED_FIGURES,):
            for begin in range(len(TIMES)):
                shares = [TIMES[(begin + 5 * k) % len(TIMES)] for k in range(len(curve) - 1)]
                expected = going_between(curve, shares)[-1][0]
                self.assert_pair(polar(plain_curve(curve), [plain(t) for t in shares]), expected)

    def test_any_order_of_the_shares(self):
        for curve in (TWO_SEATS, FOUR_SEATS, SOME_ALIKE):
            shares = [plain(t) for t in (TIMES[3], OUTSIDE[4], TIMES[7], OUTSIDE[0], OUTSIDE[6])[:len(curve) - 1]]
            told = polar(plain_curve(curve), shares)
            for order in permutations(shares):
                self.assertEqual(polar(plain_curve(curve), list(order)), told)

    def test_any_order_on_twelve_seats(self):
        shares = [plain(t) for t in TIMES[1:12]]
        told = polar(plain_curve(TWELVE_SEATS), shares)
        for begin in range(11):
            order = shares[begin:] + shares[:begin]
            self.assertEqual(polar(plain_curve(TWELVE_SEATS), order), told)
            self.assertEqual(polar(plain_curve(TWELVE_SEATS), order[::-1]), told)

    def test_all_shares_alike_lead_to_the_point(self):
        for curve in CURVES:
            for t in TIMES:
                told = polar(plain_curve(curve), [plain(t)] * (len(curve) - 1))
                self.assertEqual(told, point(plain_curve(curve), plain(t)))
                self.assert_pair(told, weighted(curve, t))

    def test_one_seat_has_no_shares(self):
        self.assertEqual(polar(plain_curve(ONE_SEAT), []), plain_pair(ONE_SEAT[0]))

    def test_noughts_and_ones_lead_to_the_seats(self):
        for curve in LADDER:
            last = len(curve) - 1
            for k in range(last + 1):
                told = polar(plain_curve(curve), [ZERO] * (last - k) + [UNIT] * k)
                self.assertEqual(told, plain_pair(curve[k]))

    def test_shares_stay_as_they_were(self):
        shares = [(1, 2), (-1, 3), (THIRTY, 7)]
        handed = list(shares)
        polar(plain_curve(FOUR_SEATS), handed)
        self.assertEqual(handed, shares)


if __name__ == "__main__":
    unittest.main()
