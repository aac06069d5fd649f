import unittest
from copy import deepcopy
from fractions import Fraction

from curveseat.curves import point
from curveseat.cuts import cut, turned
from curveseat.errors import NoJoin, NoPlace
from curveseat.paths import Path
from curveseat.smooths import through
from tests.samples import CLOSED, FOUR_SEATS, HUNDRED, HUNDRED_FIGURES, ONE_SEAT, THIRTY, TWELVE_SEATS, TWO_SEATS
from tests.samples import ShareCase, plain, plain_curve, seats, weighted

WITHIN = (Fraction(1, 2), Fraction(1, 3), Fraction(6, 7), Fraction(1, THIRTY), Fraction(HUNDRED - 1, HUNDRED))
HAIR = Fraction(1, HUNDRED)
SPOILT = "spoilt"


def joined(curves):
    """The curves, each led to where the one ahead of it ends."""
    found = [tuple(curves[0])]
    for curve in curves[1:]:
        by = tuple(found[-1][-1][at] - curve[0][at] for at in (0, 1))
        found.append(tuple((x + by[0], y + by[1]) for x, y in curve))
    return tuple(found)


ONE = (FOUR_SEATS,)
THREE = joined((FOUR_SEATS, ONE_SEAT, TWELVE_SEATS))
TWELVE = joined((TWO_SEATS, FOUR_SEATS, CLOSED, ONE_SEAT, TWELVE_SEATS[:7], TWO_SEATS) * 2)
GREAT = joined((HUNDRED_FIGURES[:3], TWO_SEATS, HUNDRED_FIGURES[4:6]))
ALL = (ONE, (ONE_SEAT,), THREE, TWELVE, GREAT)


def plain_path(curves):
    """The curves as the document writes them, in a list."""
    return [plain_curve(curve) for curve in curves]


class Making(ShareCase):
    def test_curves_are_told(self):
        for curves in ALL:
            told = Path(plain_path(curves)).curves()
            self.assertIs(type(told), list)
            self.assertEqual(len(told), len(curves))
            for curve, expected in zip(told, curves):
                self.assert_curve(curve, expected)

    def test_none_is_refused(self):
        with self.assertRaises(NoJoin):
            Path([])

    def test_twelve_and_thirteen(self):
        self.assertEqual(len(TWELVE), 12)
        self.assertEqual(len(Path(plain_path(TWELVE)).curves()), 12)
        for curves in (joined(TWELVE + (TWO_SEATS,)), (ONE_SEAT,) * 13, (ONE_SEAT,) * 30, (FOUR_SEATS,) * 13):
            with self.assertRaises(NoJoin):
                Path(plain_path(curves))

    def test_curves_that_do_not_join_are_refused(self):
        for curves in (
            (FOUR_SEATS, FOUR_SEATS), (ONE_SEAT, TWO_SEATS), (TWO_SEATS, TWO_SEATS[:1] + FOUR_SEATS),
            THREE[:1] + THREE[2:][::-1] + (ONE_SEAT,), THREE[::-1],
        ):
            with self.assertRaises(NoJoin):
                Path(plain_path(curves))

    def test_each_join_counts_to_a_hair(self):
        for at in range(1, 12):
            for by in ((HAIR, 0), (0, -HAIR)):
                x, y = TWELVE[at][0]
                beside = ((x + by[0], y + by[1]),) + TWELVE[at][1:]
                with self.assertRaises(NoJoin):
                    Path(plain_path(TWELVE[:at] + (beside,) + TWELVE[at + 1:]))

    def test_the_last_need_not_join_the_first(self):
        self.assertEqual(len(Path(plain_path(THREE)).curves()), 3)
        self.assertEqual(len(Path(plain_path((CLOSED, CLOSED, CLOSED))).curves()), 3)


class Points(ShareCase):
    def test_within_each_curve(self):
        for curves in ALL:
            path = Path(plain_path(curves))
            for k, curve in enumerate(curves):
                for u in WITHIN:
                    self.assert_pair(path.point(plain(k + u)), weighted(curve, u))

    def test_at_whole_numbers(self):
        for curves in ALL:
            path = Path(plain_path(curves))
            for k, curve in enumerate(curves):
                self.assert_pair(path.point((k, 1)), curve[0])
            self.assert_pair(path.point((len(curves), 1)), curves[-1][-1])

    def test_below_and_above_is_refused(self):
        for curves in ALL:
            path = Path(plain_path(curves))
            many = len(curves)
            for t in (-HAIR, Fraction(-1), Fraction(-THIRTY), Fraction(-1, 2), many + HAIR, many + 1, many + WITHIN[0]):
                with self.assertRaises(NoPlace):
                    path.point(plain(Fraction(t)))


class Cutting(ShareCase):
    def assert_parts(self, path, t, ahead, behind):
        told = path.cut(plain(Fraction(t)))
        self.assertIs(type(told), tuple)
        self.assertEqual(len(told), 2)
        for part, expected in zip(told, (ahead, behind)):
            self.assertIsInstance(part, Path)
            self.assertEqual(part.curves(), expected)
        return told

    def test_between_curves(self):
        for curves in (THREE, TWELVE, GREAT):
            handed = plain_path(curves)
            for k in range(1, len(curves)):
                self.assert_parts(Path(handed), k, handed[:k], handed[k:])

    def test_within_a_curve(self):
        for curves in ALL:
            handed = plain_path(curves)
            for k, curve in enumerate(handed):
                for u in WITHIN:
                    first, second = cut(curve, plain(u))
                    self.assert_parts(Path(handed), k + u, handed[:k] + [first], [second] + handed[k + 1:])

    def test_points_of_the_parts(self):
        path = Path(plain_path(THREE))
        first, second = path.cut((5, 2))
        self.assertEqual((len(first.curves()), len(second.curves())), (3, 1))
        for u in WITHIN:
            self.assertEqual(first.point(plain(2 + u)), path.point(plain(2 + u / 2)))
            self.assertEqual(second.point(plain(u)), path.point(plain(Fraction(5, 2) + u / 2)))

    def test_ends_and_outside_are_refused(self):
        for curves in ALL:
            path = Path(plain_path(curves))
            many = Fraction(len(curves))
            for t in (Fraction(0), many, -HAIR, many + HAIR, Fraction(-1), many + 1, Fraction(-THIRTY), many + WITHIN[0]):
                with self.assertRaises(NoPlace):
                    path.cut(plain(t))
            self.assertEqual(path.curves(), plain_path(curves))

    def test_a_hair_beside_the_ends(self):
        for curves in ALL:
            handed = plain_path(curves)
            first, second = cut(handed[0], plain(HAIR))
            self.assert_parts(Path(handed), HAIR, [first], [second] + handed[1:])
            first, second = cut(handed[-1], plain(1 - HAIR))
            self.assert_parts(Path(handed), len(curves) - HAIR, handed[:-1] + [first], [second])

    def test_parts_are_cut_again(self):
        first, second = Path(plain_path(TWELVE)).cut((13, 2))
        again = first.cut((13, 4))[1]
        self.assertEqual(again.point((0, 1)), Path(plain_path(TWELVE)).point((13, 4)))
        with self.assertRaises(NoPlace):
            second.cut((6, 1))


class Turned(ShareCase):
    def test_curves_turned_and_in_the_other_order(self):
        for curves in ALL:
            handed = plain_path(curves)
            told = Path(handed).turned()
            self.assertIsInstance(told, Path)
            self.assertEqual(told.curves(), [turned(curve) for curve in handed[::-1]])
            self.assertEqual(told.turned().curves(), handed)

    def test_points(self):
        for curves in ALL:
            path = Path(plain_path(curves))
            many = len(curves)
            for t in (Fraction(0), Fraction(1), Fraction(many), Fraction(many, 2), many - WITHIN[1], WITHIN[3]):
                self.assertEqual(path.turned().point(plain(t)), path.point(plain(many - t)))


class Kept(ShareCase):
    def assert_stays(self, path):
        self.assertEqual(path.curves(), plain_path(THREE))
        self.assertEqual(path.point((1, 2)), point(plain_curve(THREE[0]), (1, 2)))
        self.assertEqual(path.point((3, 1)), plain_curve(THREE[-1])[-1])
        self.assertEqual(path.turned().curves(), [turned(curve) for curve in plain_path(THREE)[::-1]])
        self.assertEqual(path.cut((1, 1))[1].curves(), plain_path(THREE[1:]))

    def spoil(self, curves):
        for curve in curves:
            curve[0] = SPOILT
            curve.append(SPOILT)
        curves[0] = SPOILT
        curves.append(SPOILT)

    def test_lists_handed_in_are_changed_afterwards(self):
        handed = plain_path(THREE)
        before = deepcopy(handed)
        path = Path(handed)
        self.assert_stays(path)
        self.assertEqual(handed, before)
        self.spoil(handed)
        self.assert_stays(path)

    def test_lists_told_are_changed_afterwards(self):
        path = Path(plain_path(THREE))
        self.spoil(path.curves())
        self.assert_stays(path)
        one, other = path.curves(), path.curves()
        self.assertIsNot(one, other)
        for mine, yours in zip(one, other):
            self.assertIsNot(mine, yours)

    def test_parts_and_turned_paths_are_apart_from_the_path(self):
        path = Path(plain_path(THREE))
        for part in path.cut((1, 1)) + path.cut((1, 2)) + (path.turned(),):
            before = part.curves()
            self.spoil(part.curves())
            self.assertEqual(part.curves(), before)
        self.assert_stays(path)

    def test_one_list_as_every_curve(self):
        curve = plain_curve(CLOSED)
        path = Path([curve] * 3)
        told = path.curves()
        self.assertEqual(len({id(one) for one in told}), 3)
        told[0].append(SPOILT)
        curve.append(SPOILT)
        self.assertEqual(told[1:], [plain_curve(CLOSED)] * 2)
        self.assertEqual(path.curves(), [plain_curve(CLOSED)] * 3)

    def test_paths_through_points(self):
        for many in (2, 10):
            places = plain_curve(TWELVE_SEATS[:many])
            path = Path(through(places))
            for k, place in enumerate(places):
                self.assertEqual(path.point((k, 1)), place)

    def test_seats_of_one_point(self):
        path = Path([plain_curve(seats((1, 2)))])
        self.assertEqual(path.point((1, 2)), ((1, 1), (2, 1)))
        for part in path.cut((1, 3)):
            self.assertEqual(part.curves(), [plain_curve(seats((1, 2)))])


if __name__ == "__main__":
    unittest.main()
