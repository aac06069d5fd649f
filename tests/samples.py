"""Numbers, shares and points that the tests try, and the checks that they have in common."""

import unittest
from fractions import Fraction
from math import gcd

THIRTY = 123456789012345678901234567890
HUNDRED = int("9876543210" * 10)
HUNDRED_ROUND = 10 ** 99
HUNDRED_PRIMES = 2 ** 109 * 3 ** 72 * 5 ** 46
# A told number of three thousand figures may be handed in again.
TOLD = 7 ** 3549
TOLD_OTHER = 10 ** 3000 - 1

SMALL = (0, 1, 2, 3, 4, 6, 12, 35, 36)
GREAT = (THIRTY, THIRTY * 6 + 1, HUNDRED, HUNDRED_ROUND, HUNDRED_PRIMES, 10 ** 100 - 1)
NUMBERS = tuple(sign * number for number in SMALL + GREAT for sign in (1, -1))

FRACTIONS = tuple(
    Fraction(top, bottom)
    for top, bottom in (
        (0, 1), (1, 1), (-1, 1), (2, 1), (-7, 1), (1, 2), (-1, 2), (1, 3), (2, 3), (-3, 4), (5, 6), (-7, 6), (35, 12),
        (THIRTY, 1), (1, THIRTY), (-THIRTY, 7), (THIRTY + 1, THIRTY),
        (HUNDRED, HUNDRED_ROUND), (-HUNDRED_PRIMES, 10 ** 100 - 1), (1, HUNDRED_PRIMES),
    )
)


def plain(fraction):
    """The share, as the document writes it, of a fraction of Python's own."""
    return (fraction.numerator, fraction.denominator)


def plain_pair(pair):
    """The point or step of two fractions of Python's own."""
    return (plain(pair[0]), plain(pair[1]))


def pairs(fractions):
    """Points of these fractions, each of them once as x and once as y."""
    return [(x, fractions[(at * 7 + 3) % len(fractions)]) for at, x in enumerate(fractions)]


SHARES = tuple(plain(fraction) for fraction in FRACTIONS)


class ShareCase(unittest.TestCase):
    def assert_form(self, one):
        """That this is a share in its one form."""
        self.assertIs(type(one), tuple)
        self.assertEqual(len(one), 2)
        self.assertIs(type(one[0]), int)
        self.assertIs(type(one[1]), int)
        self.assertGreaterEqual(one[1], 1)
        self.assertEqual(gcd(one[0], one[1]), 1)

    def assert_share(self, one, fraction):
        """That this is the share of the fraction."""
        self.assert_form(one)
        # Compared by truth: a failure's words could not show numbers of more than 4300 figures.
        self.assertTrue(one == plain(fraction))

    def assert_pair(self, one, pair):
        """That this is the point or step of the two fractions."""
        self.assertIs(type(one), tuple)
        self.assertEqual(len(one), 2)
        self.assert_share(one[0], pair[0])
        self.assert_share(one[1], pair[1])
