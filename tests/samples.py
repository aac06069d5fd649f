"""Numbers, shares and points that the tests try, and the checks that they have in common."""

import unittest
from fractions import Fraction
from functools import lru_cache
from itertools import combinations
from math import gcd

THIRTY = 123456789012345678901234567890
HUNDRED = int("9876543210" * 10)
HUNDRED_ROUND = 10 ** 99
HUNDRED_PRIMES = 2 ** 109 * 3 ** 72 * 5 ** 46
# A told number of three thousand figures may be handed in again.
TOLD = 7 ** 3549
TOLD_OTHER = 10 ** 3000 - 1

SMALL = (0, 1, 2, 3, 4, 6, 12, 35, 36)
GREAT = (THIRTY, THIRTY * 6 + 1, HUNDRED, HUNDRED_ROUND, HUNDRED_PRIMES, 10 ** 100 - 1)
NUMBERS = tuple(sign * number for number in SMALL + GREAT for sign in (1, -1))

FRACTIONS = tuple(
    Fraction(top, bottom)
    for top, bottom in (
        (0, 1), (1, 1), (-1, 1), (2, 1), (-7, 1), (1, 2), (-1, 2), (1, 3), (2, 3), (-3, 4), (5, 6), (-7, 6), (35, 12),
        (THIRTY, 1), (1, THIRTY), (-THIRTY, 7), (THIRTY + 1, THIRTY),
        (HUNDRED, HUNDRED_ROUND), (-HUNDRED_PRIMES, 10 ** 100 - 1), (1, HUNDRED_PRIMES),
    )
)


def plain(fraction):
    """The share, as the document writes it, of a fraction of Python's own."""
    return (fraction.numerator, fraction.denominator)


def plain_pair(pair):
    """The point or step of two fractions of Python's own."""
    return (plain(pair[0]), plain(pair[1]))


def pairs(fractions):
    """Points of these fractions, each of them once as x and once as y."""
    return [(x, fractions[(at * 7 + 3) % len(fractions)]) for at, x in enumerate(fractions)]


def plain_curve(curve):
    """The curve, as the document writes it, of pairs of fractions of Python's own."""
    return [plain_pair(pair) for pair in curve]


def seats(*pairs_of_tops, bottom=1):
    """A curve in fractions of Python's own, its seats given as pairs of tops over one bottom."""
    return tuple((Fraction(x, bottom), Fraction(y, bottom)) for x, y in pairs_of_tops)


@lru_cache(maxsize=None)
def ways(n, k):
    """How many ways there are to choose k of n things, counted one by one."""
    return sum(1 for chosen in combinations(range(n), k))


def weights_of(n, t):
    """The weights of n at t, as the document tells them."""
    return [ways(n, k) * t ** k * (1 - t) ** (n - k) for k in range(n + 1)]


def weighted(curve, t):
    """The sum of the seats, each times its weight at t."""
    told = weights_of(len(curve) - 1, t)
    return (
        sum(weight * seat[0] for weight, seat in zip(told, curve)),
        sum(weight * seat[1] for weight, seat in zip(told, curve)),
    )


def by_powers(some, t):
    """The sum of the pairs, each times t taken as often as its number tells."""
    return (sum(one[0] * t ** k for k, one in enumerate(some)), sum(one[1] * t ** k for k, one in enumerate(some)))


def seats_of_powers(some):
    """The curve, in fractions, that has these pairs of fractions as its powers."""
    last = len(some) - 1
    parts = [[Fraction(ways(k, i), ways(last, i)) for i in range(k + 1)] for k in range(last + 1)]
    return tuple(
        (sum(part * one[0] for part, one in zip(row, some)), sum(part * one[1] for part, one in zip(row, some)))
        for row in parts
    )


def fractions_of(curve):
    """A told curve, in fractions of Python's own."""
    return [(Fraction(*x), Fraction(*y)) for x, y in curve]


SHARES = tuple(plain(fraction) for fraction in FRACTIONS)

ONE_SEAT = seats((-3, 8), bottom=4)
TWO_SEATS = ((Fraction(1, 2), Fraction(-1)), (Fraction(-2, 3), Fraction(5, 7)))
FOUR_SEATS = seats((0, 0), (1, 4), (5, 3), (6, -2))
SOME_ALIKE = seats((1, 2), (1, 2), (-3, 5), (1, 2), (4, 4), (4, 4), bottom=3)
ALL_ALIKE = seats((-7, 5), (-7, 5), (-7, 5), (-7, 5), (-7, 5), bottom=6)
CLOSED = seats((2, 1), (7, -3), (0, 9), (2, 1), bottom=2)
TWELVE_SEATS = tuple((Fraction(k * k - 9, k + 1), Fraction((-1) ** k * (3 * k + 2), 7 - k % 5)) for k in range(12))
THIRTY_FIGURES = (
    (Fraction(THIRTY), Fraction(1, THIRTY)), (Fraction(-THIRTY, 7), Fraction(THIRTY + 1, THIRTY)),
    (Fraction(0), Fraction(-1)), (Fraction(7, THIRTY + 2), Fraction(THIRTY, THIRTY + 4)),
    (Fraction(THIRTY, 11), Fraction(3)),
)
HUNDRED_FIGURES = tuple(
    (Fraction(HUNDRED - k, HUNDRED_ROUND - k * k), Fraction((-1) ** k * HUNDRED_PRIMES, HUNDRED - 3 * k))
    for k in range(1, 13)
)
# One to twelve seats, each number of them at least once.
LADDER = tuple(TWELVE_SEATS[:many] for many in range(1, 13))
CURVES = LADDER + (
    ONE_SEAT, TWO_SEATS, TWO_SEATS[:1] * 2, FOUR_SEATS, SOME_ALIKE, ALL_ALIKE, CLOSED, THIRTY_FIGURES,
    HUNDRED_FIGURES[:3],
)

INSIDE = tuple(
    Fraction(top, bottom)
    for top, bottom in ((0, 1), (1, 1), (1, 2), (1, 3), (2, 3), (3, 4), (1, 7), (THIRTY, THIRTY + 1), (1, THIRTY))
)
OUTSIDE = tuple(
    Fraction(top, bottom)
    for top, bottom in (
        (2, 1), (-1, 1), (-1, 3), (7, 5), (-9, 4), (THIRTY, 1), (-THIRTY, 7), (THIRTY + 2, THIRTY), (-1, THIRTY),
    )
)
TIMES = INSIDE + OUTSIDE


class ShareCase(unittest.TestCase):
    def assert_form(self, one):
        """That this is a share in its one form."""
        self.assertIs(type(one), tuple)
        self.assertEqual(len(one), 2)
        self.assertIs(type(one[0]), int)
        self.assertIs(type(one[1]), int)
        self.assertGreaterEqual(one[1], 1)
        self.assertEqual(gcd(one[0], one[1]), 1)

    def assert_share(self, one, fraction):
        """That this is the share of the fraction."""
        self.assert_form(one)
        # Compared by truth: a failure's words could not show numbers of more than 4300 figures.
        self.assertTrue(one == plain(fraction))

    def assert_pair(self, one, pair):
        """That this is the point or step of the two fractions."""
        self.assertIs(type(one), tuple)
        self.assertEqual(len(one), 2)
        self.assert_share(one[0], pair[0])
        self.assert_share(one[1], pair[1])

    def assert_point_form(self, one):
        """That this is a point, both its shares in their one form."""
        self.assertIs(type(one), tuple)
        self.assertEqual(len(one), 2)
        self.assert_form(one[0])
        self.assert_form(one[1])

    def assert_curve_form(self, curve, many):
        """That this is a list of so many points."""
        self.assertIs(type(curve), list)
        self.assertEqual(len(curve), many)
        for one in curve:
            self.assert_point_form(one)

    def assert_curve(self, curve, pairs_told):
        """That this is the curve of these pairs of fractions, seat by seat."""
        self.assert_curve_form(curve, len(pairs_told))
        for one, pair in zip(curve, pairs_told):
            self.assert_pair(one, pair)

    def assert_on(self, curve, fractions, among=TIMES):
        """That a told curve has, reckoned here by weights, the points that a function of t tells."""
        own = fractions_of(curve)
        for t in among:
            self.assertTrue(weighted(own, t) == fractions(t), t)


class PartingCase(ShareCase):
    """Of partings any that hold are told: so they are held to the document's words, not to written answers."""

    def assert_line(self, line, ones, others):
        """That a line, three shares, parts the pairs of fractions: each strictly on its side."""
        for one in line:
            self.assert_form(one)
        a, b, c = [Fraction(*one) for one in line]
        for x, y in ones:
            self.assertTrue(a * x + b * y < c)
        for x, y in others:
            self.assertTrue(c < a * x + b * y)

    def assert_shares(self, told, many):
        """That these are so many shares from 0 on that come to 1 together."""
        self.assertIs(type(told), list)
        self.assertEqual(len(told), many)
        for one in told:
            self.assert_form(one)
            self.assertTrue(one[0] >= 0)
        self.assertTrue(sum(Fraction(*one) for one in told) == 1)

    def assert_common(self, told, ones, others):
        """That two lists of shares lead the pairs of fractions of both lists to the same point."""
        for part, places in zip(told, (ones, others)):
            self.assert_shares(part, len(places))
        for at in (0, 1):
            come = [
                sum(Fraction(*one) * place[at] for one, place in zip(part, places))
                for part, places in zip(told, (ones, others))
            ]
            self.assertTrue(come[0] == come[1])

    def assert_parting(self, told, ones, others, kind):
        """That a parting of this kind is told, and holds."""
        self.assertIs(type(told), tuple)
        self.assertEqual(told[0], kind)
        if kind == "line":
            self.assertEqual(len(told), 4)
            self.assert_line(told[1:], ones, others)
        else:
            self.assertEqual(told[0], "common")
            self.assertEqual(len(told), 3)
            self.assert_common(told[1:], ones, others)
