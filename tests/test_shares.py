import unittest
from fractions import Fraction

from curveseat.errors import NoShare
from curveseat.shares import between, minus, over, plus, share, times, under
from tests.samples import FRACTIONS, HUNDRED, HUNDRED_ROUND, NUMBERS, SHARES, THIRTY, TOLD, TOLD_OTHER
from tests.samples import ShareCase, plain

ZERO = (0, 1)
UNIT = (1, 1)


class Making(ShareCase):
    def test_written_ones(self):
        told = (
            ((3, 4), (3, 4)), ((-3, 4), (-3, 4)), ((3, -4), (-3, 4)), ((-3, -4), (3, 4)),
            ((6, 8), (3, 4)), ((-6, 8), (-3, 4)), ((6, -8), (-3, 4)), ((-6, -8), (3, 4)),
            ((5, 1), (5, 1)), ((5, -1), (-5, 1)), ((12, 4), (3, 1)), ((4, 12), (1, 3)), ((7, 7), (1, 1)),
            ((7, -7), (-1, 1)), ((-7, -7), (1, 1)),
            ((6 * THIRTY, 4 * THIRTY), (3, 2)), ((-6 * HUNDRED, 9 * HUNDRED), (-2, 3)),
            ((HUNDRED_ROUND, -1), (-HUNDRED_ROUND, 1)), ((1, -HUNDRED_ROUND), (-1, HUNDRED_ROUND)),
        )
        for given, expected in told:
            with self.subTest(given):
                self.assertEqual(share(*given), expected)
                self.assert_form(share(*given))

    def test_nought_has_one_form(self):
        for bottom in NUMBERS:
            if bottom != 0:
                self.assertEqual(share(0, bottom), ZERO)
                self.assert_form(share(0, bottom))

    def test_any_two_numbers(self):
        for top in NUMBERS:
            for bottom in NUMBERS:
                if bottom != 0:
                    self.assert_share(share(top, bottom), Fraction(top, bottom))

    def test_bottom_of_nought_is_refused(self):
        for top in NUMBERS:
            with self.assertRaises(NoShare):
                share(top, 0)

    def test_told_numbers_are_taken_again(self):
        self.assert_share(share(TOLD, TOLD_OTHER), Fraction(TOLD, TOLD_OTHER))
        self.assert_share(share(-TOLD, -TOLD), Fraction(1))

    def test_small_numbers_all(self):
        for top in range(-30, 31):
            for bottom in list(range(-30, 0)) + list(range(1, 31)):
                self.assert_share(share(top, bottom), Fraction(top, bottom))


class Sums(ShareCase):
    def test_written_ones(self):
        self.assertEqual(plus((1, 2), (1, 3)), (5, 6))
        self.assertEqual(plus((1, 4), (1, 4)), (1, 2))
        self.assertEqual(plus((-1, 2), (1, 2)), ZERO)
        self.assertEqual(minus((1, 2), (1, 3)), (1, 6))
        self.assertEqual(minus((1, 3), (1, 2)), (-1, 6))
        self.assertEqual(minus((5, 6), (1, 3)), (1, 2))
        self.assertEqual(times((2, 3), (3, 4)), (1, 2))
        self.assertEqual(times((-2, 3), (-3, 2)), UNIT)
        self.assertEqual(times(ZERO, (-3, 4)), ZERO)
        self.assertEqual(over((1, 2), (3, 4)), (2, 3))
        self.assertEqual(over((1, 2), (-3, 4)), (-2, 3))
        self.assertEqual(over((-1, 2), (-3, 4)), (2, 3))
        self.assertEqual(over(ZERO, (-3, 4)), ZERO)

    def test_against_fractions(self):
        for one in FRACTIONS:
            for other in FRACTIONS:
                a, b = plain(one), plain(other)
                self.assert_share(plus(a, b), one + other)
                self.assert_share(minus(a, b), one - other)
                self.assert_share(times(a, b), one * other)
                if other != 0:
                    self.assert_share(over(a, b), one / other)

    def test_over_nought_is_refused(self):
        for one in SHARES:
            with self.assertRaises(NoShare):
                over(one, ZERO)

    def test_less_itself_is_nought_and_over_itself_one(self):
        for one in SHARES:
            self.assertEqual(minus(one, one), ZERO)
            if one != ZERO:
                self.assertEqual(over(one, one), UNIT)

    def test_each_way_leads_back(self):
        for one in SHARES:
            for other in SHARES:
                self.assertEqual(minus(plus(one, other), one), other)
                if one != ZERO:
                    self.assertEqual(over(times(one, other), one), other)

    def test_told_shares_are_taken_again(self):
        one, other = Fraction(TOLD, TOLD_OTHER), Fraction(-TOLD_OTHER, TOLD + 2)
        a, b = plain(one), plain(other)
        self.assert_share(plus(a, b), one + other)
        self.assert_share(minus(a, b), one - other)
        self.assert_share(times(a, b), one * other)
        self.assert_share(over(a, b), one / other)


class Order(ShareCase):
    def test_written_ones(self):
        told = (
            ((1, 3), (1, 2), True), ((1, 2), (1, 3), False), ((1, 2), (1, 2), False),
            ((-1, 2), (-1, 3), True), ((-1, 3), (-1, 2), False), ((-1, 2), (-1, 2), False),
            ((-1, 2), (1, 3), True), ((1, 3), (-1, 2), False), ((2, 3), (3, 4), True), ((5, 7), (2, 3), False),
            (ZERO, ZERO, False), ((-1, THIRTY), ZERO, True), (ZERO, (1, THIRTY), True),
        )
        for one, other, expected in told:
            with self.subTest(one=one, other=other):
                self.assertIs(under(one, other), expected)

    def test_against_fractions(self):
        for one in FRACTIONS:
            for other in FRACTIONS:
                self.assertIs(under(plain(one), plain(other)), one < other)

    def test_near_neighbours(self):
        # These two are closer than a rounded reckoning could tell.
        one, other = (HUNDRED_ROUND, HUNDRED_ROUND + 1), (HUNDRED_ROUND + 1, HUNDRED_ROUND + 2)
        self.assertIs(under(one, other), True)
        self.assertIs(under(other, one), False)
        self.assertIs(under((TOLD, TOLD + 1), (TOLD + 1, TOLD + 2)), True)
        self.assertIs(under((TOLD + 1, TOLD + 2), (TOLD, TOLD + 1)), False)


class Between(ShareCase):
    def test_written_ones(self):
        self.assertEqual(between((1, 1), (3, 1), (1, 2)), (2, 1))
        self.assertEqual(between((1, 1), (3, 1), (1, 4)), (3, 2))
        self.assertEqual(between((3, 1), (1, 1), (1, 4)), (5, 2))
        self.assertEqual(between((1, 1), (3, 1), (-1, 1)), (-1, 1))
        self.assertEqual(between((1, 1), (3, 1), (2, 1)), (5, 1))
        self.assertEqual(between((1, 2), (-1, 3), (3, 5)), ZERO)

    def test_ends(self):
        for one in SHARES:
            for other in SHARES:
                self.assertEqual(between(one, other, ZERO), one)
                self.assertEqual(between(one, other, UNIT), other)

    def test_alike_ends_stay(self):
        for one in SHARES:
            for t in SHARES:
                self.assertEqual(between(one, one, t), one)

    def test_against_fractions_and_the_other_way_round(self):
        for one in FRACTIONS:
            for other in FRACTIONS:
                for t in FRACTIONS:
                    answer = between(plain(one), plain(other), plain(t))
                    self.assert_share(answer, one + t * (other - one))
                    self.assertEqual(between(plain(other), plain(one), plain(1 - t)), answer)

    def test_told_shares_are_taken_again(self):
        one, other, t = Fraction(TOLD, TOLD_OTHER), Fraction(-TOLD_OTHER, TOLD + 2), Fraction(TOLD + 1, TOLD)
        self.assert_share(between(plain(one), plain(other), plain(t)), one + t * (other - one))


if __name__ == "__main__":
    unittest.main()
