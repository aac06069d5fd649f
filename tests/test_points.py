import unittest
from fractions import Fraction

from curveseat.points import cross, dot, on_way, step
from tests.samples import FRACTIONS, TOLD, TOLD_OTHER, ShareCase, pairs, plain, plain_pair

PAIRS = pairs(FRACTIONS)


class OnWay(ShareCase):
    def test_written_ones(self):
        one, other = ((0, 1), (1, 1)), ((2, 1), (-1, 2))
        self.assertEqual(on_way(one, other, (1, 2)), ((1, 1), (1, 4)))
        self.assertEqual(on_way(one, other, (1, 3)), ((2, 3), (1, 2)))
        self.assertEqual(on_way(other, one, (1, 3)), ((4, 3), (0, 1)))
        self.assertEqual(on_way(one, other, (-1, 1)), ((-2, 1), (5, 2)))
        self.assertEqual(on_way(one, other, (2, 1)), ((4, 1), (-2, 1)))

    def test_ends(self):
        for one in PAIRS:
            for other in PAIRS:
                a, b = plain_pair(one), plain_pair(other)
                self.assertEqual(on_way(a, b, (0, 1)), a)
                self.assertEqual(on_way(a, b, (1, 1)), b)

    def test_against_fractions(self):
        for one in PAIRS:
            for other in PAIRS[::3]:
                for t in FRACTIONS[::2]:
                    expected = (one[0] + t * (other[0] - one[0]), one[1] + t * (other[1] - one[1]))
                    self.assert_pair(on_way(plain_pair(one), plain_pair(other), plain(t)), expected)

    def test_alike_points_stay(self):
        for one in PAIRS:
            for t in FRACTIONS:
                self.assertEqual(on_way(plain_pair(one), plain_pair(one), plain(t)), plain_pair(one))


class Steps(ShareCase):
    def test_written_ones(self):
        one, other = ((0, 1), (1, 1)), ((2, 1), (-1, 2))
        self.assertEqual(step(one, other), ((2, 1), (-3, 2)))
        self.assertEqual(step(other, one), ((-2, 1), (3, 2)))

    def test_to_itself(self):
        for one in PAIRS:
            self.assertEqual(step(plain_pair(one), plain_pair(one)), ((0, 1), (0, 1)))

    def test_against_fractions(self):
        for one in PAIRS:
            for other in PAIRS:
                expected = (other[0] - one[0], other[1] - one[1])
                self.assert_pair(step(plain_pair(one), plain_pair(other)), expected)


class CrossAndDot(ShareCase):
    def test_written_ones(self):
        right, up = ((1, 1), (0, 1)), ((0, 1), (1, 1))
        self.assertEqual(cross(right, up), (1, 1))
        self.assertEqual(cross(up, right), (-1, 1))
        self.assertEqual(dot(right, up), (0, 1))
        self.assertEqual(dot(right, right), (1, 1))
        one, other = ((1, 2), (2, 3)), ((-3, 1), (5, 4))
        self.assertEqual(cross(one, other), (21, 8))
        self.assertEqual(dot(one, other), (-2, 3))

    def test_cross_with_itself_is_nought(self):
        for one in PAIRS:
            self.assertEqual(cross(plain_pair(one), plain_pair(one)), (0, 1))

    def test_against_fractions(self):
        for one in PAIRS:
            for other in PAIRS:
                a, b = plain_pair(one), plain_pair(other)
                self.assert_share(cross(a, b), one[0] * other[1] - one[1] * other[0])
                self.assert_share(dot(a, b), one[0] * other[0] + one[1] * other[1])


class Told(ShareCase):
    def test_told_numbers_are_taken_again(self):
        one = (Fraction(TOLD, TOLD_OTHER), Fraction(-TOLD_OTHER))
        other = (Fraction(1, TOLD), Fraction(TOLD_OTHER, TOLD))
        a, b = plain_pair(one), plain_pair(other)
        t = Fraction(-TOLD, TOLD + 1)
        self.assert_pair(step(a, b), (other[0] - one[0], other[1] - one[1]))
        self.assert_pair(
            on_way(a, b, plain(t)), (one[0] + t * (other[0] - one[0]), one[1] + t * (other[1] - one[1]))
        )
        self.assert_share(cross(a, b), one[0] * other[1] - one[1] * other[0])
        self.assert_share(dot(a, b), one[0] * other[0] + one[1] * other[1])


if __name__ == "__main__":
    unittest.main()
