import unittest
from fractions import Fraction

from curveseat.errors import NoLower, TooMany
from curveseat.powers import powers
from curveseat.raising import least, lowered, raised, same
from tests.samples import ALL_ALIKE, CURVES, FOUR_SEATS, HUNDRED_FIGURES, LADDER, ONE_SEAT, SOME_ALIKE
from tests.samples import THIRTY_FIGURES, TOLD, TOLD_OTHER, TWELVE_SEATS, TWO_SEATS
from tests.samples import ShareCase, plain_curve, plain_pair, seats_of_powers, weighted

NOUGHT = ((0, 1), (0, 1))
RAISABLE = tuple(curve for curve in CURVES if len(curve) < 12) + (HUNDRED_FIGURES[:11],)
# These can't be lowered: their last powers are not nought.
STIFF = tuple(curve for curve in LADDER if len(curve) > 1) + (TWO_SEATS, FOUR_SEATS, THIRTY_FIGURES, HUNDRED_FIGURES)


def raised_often(curve, often):
    for time in range(often):
        curve = raised(curve)
    return curve


def with_roots(roots):
    """The numbers by powers of t of the product of all (t - root)."""
    found = [Fraction(1)]
    for root in roots:
        found = [ahead - root * behind for ahead, behind in zip([0] + found, found + [0])]
    return found


def bent(curve, roots, by):
    """The curve that differs from a curve, as often raised as needed, by a product with these roots times a pair."""
    numbers = with_roots(roots)
    many = max(len(curve), len(numbers))
    own = [(Fraction(*x), Fraction(*y)) for x, y in powers(plain_curve(curve))]
    own += [(Fraction(0), Fraction(0))] * (many - len(own))
    numbers += [Fraction(0)] * (many - len(numbers))
    return seats_of_powers([(x + by[0] * more, y + by[1] * more) for (x, y), more in zip(own, numbers)])


class Raised(ShareCase):
    def test_written_ones(self):
        self.assertEqual(raised([((1, 2), (3, 1))]), [((1, 2), (3, 1))] * 2)
        curve = [((0, 1), (0, 1)), ((3, 1), (6, 1)), ((3, 2), (0, 1))]
        self.assertEqual(raised(curve), [((0, 1), (0, 1)), ((2, 1), (4, 1)), ((5, 2), (4, 1)), ((3, 2), (0, 1))])

    def test_seats_as_the_document_tells_them(self):
        for curve in RAISABLE:
            many = len(curve)
            inner = []
            for k in range(1, many):
                part, one, other = Fraction(k, many), curve[k], curve[k - 1]
                inner.append(tuple(one[at] + part * (other[at] - one[at]) for at in (0, 1)))
            self.assert_curve(raised(plain_curve(curve)), [curve[0]] + inner + [curve[-1]])

    def test_same_points(self):
        self.assertEqual({len(curve) for curve in RAISABLE}, set(range(1, 12)))
        for curve in RAISABLE:
            told = raised(plain_curve(curve))
            self.assert_curve_form(told, len(curve) + 1)
            self.assert_on(told, lambda t: weighted(curve, t))

    def test_ends_stay(self):
        for curve in RAISABLE:
            told = raised(plain_curve(curve))
            self.assertEqual((told[0], told[-1]), (plain_pair(curve[0]), plain_pair(curve[-1])))

    def test_powers_have_nought_behind(self):
        for curve in RAISABLE:
            handed = plain_curve(curve)
            self.assertEqual(powers(raised(handed)), powers(handed) + [NOUGHT])

    def test_twelve_seats_are_too_many(self):
        for curve in (TWELVE_SEATS, HUNDRED_FIGURES, ONE_SEAT * 12):
            handed = plain_curve(curve)
            with self.assertRaises(TooMany):
                raised(handed)
            self.assertEqual(handed, plain_curve(curve))

    def test_up_to_twelve(self):
        told = raised_often(plain_curve(ONE_SEAT), 11)
        self.assertEqual(told, plain_curve(ONE_SEAT) * 12)
        with self.assertRaises(TooMany):
            raised(told)


class Lowered(ShareCase):
    def test_written_ones(self):
        curve = [((0, 1), (0, 1)), ((2, 1), (4, 1)), ((5, 2), (4, 1)), ((3, 2), (0, 1))]
        self.assertEqual(lowered(curve), [((0, 1), (0, 1)), ((3, 1), (6, 1)), ((3, 2), (0, 1))])

    def test_raised_ones_come_back_seat_by_seat(self):
        for curve in RAISABLE:
            for often in range(1, min(3, 12 - len(curve)) + 1):
                told = raised_often(plain_curve(curve), often)
                for left in reversed(range(often)):
                    told = lowered(told)
                    self.assertEqual(told, raised_often(plain_curve(curve), left))
                self.assert_curve(told, curve)

    def test_from_twelve_down_to_one(self):
        told = raised_often(plain_curve(ONE_SEAT), 11)
        for many in reversed(range(1, 12)):
            told = lowered(told)
            self.assertEqual(told, plain_curve(ONE_SEAT) * many)

    def test_where_there_is_none(self):
        for curve in STIFF:
            handed = plain_curve(curve)
            with self.assertRaises(NoLower):
                lowered(handed)
            self.assertEqual(handed, plain_curve(curve))

    def test_one_seat(self):
        for curve in (ONE_SEAT, ((Fraction(0), Fraction(0)),)):
            with self.assertRaises(NoLower):
                lowered(plain_curve(curve))

    def test_one_share_of_one_seat_changed(self):
        for curve in (ONE_SEAT, TWO_SEATS, FOUR_SEATS, LADDER[10]):
            told = raised(plain_curve(curve))
            for k in range(len(told)):
                x, y = told[k]
                for seat in (((x[0] + x[1], x[1]), y), (x, (y[0] - y[1], y[1]))):
                    with self.assertRaises(NoLower):
                        lowered(told[:k] + [seat] + told[k + 1:])

    def test_one_share_a_hair_off(self):
        # The seats are great and the change is small: only exact numbers tell them apart.
        told = raised(plain_curve(HUNDRED_FIGURES[:5]))
        x = Fraction(*told[2][0]) + Fraction(1, 10 ** 99)
        with self.assertRaises(NoLower):
            lowered(told[:2] + [((x.numerator, x.denominator), told[2][1])] + told[3:])

    def test_seats_all_alike_come_down_to_one(self):
        told = plain_curve(ALL_ALIKE)
        while len(told) > 1:
            less = lowered(told)
            self.assertEqual(less, told[1:])
            self.assertIsNot(less, told)
            told = less
        with self.assertRaises(NoLower):
            lowered(told)

    def test_same_points(self):
        for curve in RAISABLE:
            told = lowered(raised(plain_curve(curve)))
            self.assert_curve_form(told, len(curve))
            self.assert_on(told, lambda t: weighted(curve, t))

    def test_told_numbers_are_taken_again(self):
        curve = plain_curve((
            (Fraction(TOLD, TOLD_OTHER), Fraction(-TOLD_OTHER)), (Fraction(1, TOLD), Fraction(TOLD_OTHER, TOLD)),
            (Fraction(3), Fraction(1, 2)),
        ))
        self.assertTrue(lowered(raised(curve)) == curve)
        self.assertIs(same(curve, raised(curve)), True)
        with self.assertRaises(NoLower):
            lowered(curve)


class Least(ShareCase):
    def test_raised_several_times(self):
        for curve in STIFF:
            for often in range(13 - len(curve)):
                told = least(raised_often(plain_curve(curve), often))
                self.assert_curve(told, curve)

    def test_one_that_cant_be_lowered_is_told_in_a_new_list(self):
        for curve in STIFF + (ONE_SEAT,):
            handed = plain_curve(curve)
            told = least(handed)
            self.assertEqual(told, handed)
            self.assertIsNot(told, handed)

    def test_seats_all_alike(self):
        for many in range(1, 13):
            self.assertEqual(least(plain_curve(ONE_SEAT * many)), plain_curve(ONE_SEAT))
        self.assertEqual(least([NOUGHT] * 12), [NOUGHT])

    def test_is_lowered_as_often_as_can_be(self):
        for curve in CURVES:
            told = plain_curve(curve)
            while True:
                try:
                    told = lowered(told)
                except NoLower:
                    break
            self.assertEqual(least(plain_curve(curve)), told)

    def test_same_points(self):
        for curve in CURVES:
            self.assert_on(least(plain_curve(curve)), lambda t: weighted(curve, t))

    def test_nought_among_the_powers_is_no_end(self):
        some = ((Fraction(1), Fraction(2)), (Fraction(0), Fraction(0)), (Fraction(0), Fraction(3)))
        curve = seats_of_powers(some + ((Fraction(0), Fraction(0)),) * 2)
        self.assert_curve(least(plain_curve(curve)), seats_of_powers(some))


class Same(ShareCase):
    def assert_same(self, one, other, expected):
        self.assertIs(same(one, other), expected)
        self.assertIs(same(other, one), expected)

    def test_raised_ones(self):
        for curve in CURVES:
            handed = plain_curve(curve)
            for one in range(13 - len(curve)):
                for other in range(0, 13 - len(curve), 3):
                    self.assert_same(raised_often(handed, one), raised_often(handed, other), True)

    def test_unlike_ones(self):
        plain = [plain_curve(curve) for curve in (ONE_SEAT, TWO_SEATS, FOUR_SEATS, SOME_ALIKE, THIRTY_FIGURES)]
        plain += [plain_curve(TWELVE_SEATS), [NOUGHT]]
        for at, one in enumerate(plain):
            for beside, other in enumerate(plain):
                self.assert_same(one, other, at == beside)

    def test_one_share_differs(self):
        for curve in (ONE_SEAT, TWO_SEATS, FOUR_SEATS, TWELVE_SEATS):
            handed = plain_curve(curve)
            for k in range(len(handed)):
                x, y = handed[k]
                self.assert_same(handed, handed[:k] + [((x[0] + x[1], x[1]), y)] + handed[k + 1:], False)
                self.assert_same(handed, handed[:k] + [(x, (y[0] + y[1], y[1]))] + handed[k + 1:], False)

    def test_alike_at_some_shares_only(self):
        ends = [Fraction(0), Fraction(1)]
        halves = ends + [Fraction(1, 2)]
        thirds = halves + [Fraction(1, 3), Fraction(2, 3)]
        quarters = thirds + [Fraction(1, 4), Fraction(3, 4)]
        eleven = quarters + [Fraction(2), Fraction(-1), Fraction(1, 5), Fraction(4, 5)]
        for roots in ([Fraction(0)], [Fraction(1)], ends, halves, thirds, quarters, eleven):
            for curve in (ONE_SEAT, TWO_SEATS, FOUR_SEATS):
                for by in ((Fraction(1), Fraction(0)), (Fraction(0), Fraction(-1, 3)), (Fraction(1, 10 ** 90),) * 2):
                    other = bent(curve, roots, by)
                    for t in roots:
                        self.assertEqual(weighted(other, t), weighted(curve, t))
                    self.assertNotEqual(weighted(other, Fraction(3)), weighted(curve, Fraction(3)))
                    self.assert_same(plain_curve(curve), plain_curve(other), False)

    def test_same_way_at_another_pace_is_not_the_same(self):
        one = seats_of_powers([(Fraction(0), Fraction(0)), (Fraction(1), Fraction(1))])
        other = seats_of_powers([(Fraction(0), Fraction(0)), (Fraction(0), Fraction(0)), (Fraction(1), Fraction(1))])
        self.assert_same(plain_curve(one), plain_curve(other), False)
        self.assert_same(plain_curve(FOUR_SEATS), plain_curve(FOUR_SEATS[::-1]), False)


if __name__ == "__main__":
    unittest.main()
