import unittest
from fractions import Fraction
from unittest import mock

from curveseat import meets as module
from curveseat.cuts import stretch, turned
from curveseat.errors import TooMany
from curveseat.hulls import box
from curveseat.meets import meets, near, stretches
from curveseat.partings import parting
from curveseat.raising import raised
from tests.samples import ALL_ALIKE, CLOSED, CURVES, FOUR_SEATS, HUNDRED, HUNDRED_FIGURES, ONE_SEAT, SOME_ALIKE
from tests.samples import THIRTY, THIRTY_FIGURES, TWELVE_SEATS, TWO_SEATS, PartingCase, fractions_of, plain
from tests.samples import plain_curve, seats, seats_of_powers, weighted

FLAT = seats((0, 0), (8, 0))
THERE_AND_BACK = seats((0, 0), (8, 0), (0, 0))
UPRIGHT = seats((3, -2), (3, 5))
ARCH = seats((0, -1), (4, 7), (8, -1))
BOWL = seats((0, 2), (4, -5), (8, 2))
LOOP = seats((0, 0), (9, 8), (-1, 8), (8, 0))
EIGHT = TWELVE_SEATS[:8]
FAR_OFF = seats((100, 100), (101, 105), (99, 103))
TOUCHING = seats((0, 3), (4, 3), (8, 3))
GREAT = tuple((x * THIRTY, y / THIRTY) for x, y in ARCH)
PAIRS = (
    (FLAT, UPRIGHT), (FLAT, ARCH), (ARCH, BOWL), (ARCH, TOUCHING), (LOOP, ARCH), (LOOP, FLAT), (EIGHT, FOUR_SEATS),
    (FLAT, FAR_OFF), (LOOP, FAR_OFF), (CLOSED, SOME_ALIKE), (GREAT, tuple((x * THIRTY, y / THIRTY) for x, y in BOWL)),
    (ONE_SEAT, FLAT), (seats((4, 3)), ARCH), (seats((4, 4)), ARCH), (seats((4, 3)), seats((4, 5))),
    (TWO_SEATS, TWO_SEATS[::-1]), (THIRTY_FIGURES, FOUR_SEATS), (HUNDRED_FIGURES[:8], HUNDRED_FIGURES[3:7]),
)
# An arch that is walked three times, and another one a little above it: their stretches meet only while they are fat.
THREE_TIMES = (Fraction(-1), Fraction(18), Fraction(-48), Fraction(32))


def squared(some):
    """The powers of a sum by powers taken times itself."""
    found = [Fraction(0)] * (2 * len(some) - 1)
    for k, one in enumerate(some):
        for m, other in enumerate(some):
            found[k + m] += one * other
    return found


def walked(up):
    """The arch walked three times, led up."""
    height = squared(THREE_TIMES)
    height[0] += up
    across = list(THREE_TIMES) + [Fraction(0)] * (len(height) - len(THREE_TIMES))
    return seats_of_powers(list(zip(across, height)))


def stretches_of(curve, level):
    """The stretches of a level in fractions, each seat by going between at begins and ends."""
    many = 2 ** level
    return [stretch_of(curve, Fraction(i, many), Fraction(i + 1, many)) for i in range(many)]


def stretch_of(curve, s, t):
    """The stretch from s to t."""
    last = len(curve) - 1
    found = []
    for k in range(last + 1):
        row = list(curve)
        for at in [s] * (last - k) + [t] * k:
            row = [(x + at * (u - x), y + at * (v - y)) for (x, y), (u, v) in zip(row, row[1:])]
        found.append(row[0])
    return found


class Stretches(PartingCase):
    def test_written_ones(self):
        self.assertEqual(stretches(plain_curve(FLAT), 1), [
            [((0, 1), (0, 1)), ((4, 1), (0, 1))], [((4, 1), (0, 1)), ((8, 1), (0, 1))],
        ])
        self.assertEqual(stretches(plain_curve(seats((0, 0), (1, 2), (2, 0))), 1), [
            [((0, 1), (0, 1)), ((1, 2), (1, 1)), ((1, 1), (1, 1))],
            [((1, 1), (1, 1)), ((3, 2), (1, 1)), ((2, 1), (0, 1))],
        ])

    def test_level_nought_is_the_curve_in_a_new_list(self):
        for curve in CURVES + (HUNDRED_FIGURES,):
            handed = plain_curve(curve)
            told = stretches(handed, 0)
            self.assertEqual(told, [handed])
            self.assertIsNot(told[0], handed)

    def test_each_level_against_going_between(self):
        for curve in (ONE_SEAT, TWO_SEATS, FOUR_SEATS, ALL_ALIKE, TWELVE_SEATS, THIRTY_FIGURES):
            for level in range(4):
                told = stretches(plain_curve(curve), level)
                self.assertIs(type(told), list)
                self.assertEqual(len(told), 2 ** level)
                for one, expected in zip(told, stretches_of(curve, level)):
                    self.assert_curve(one, expected)

    def test_all_of_level_six(self):
        for curve in (ONE_SEAT, FOUR_SEATS, EIGHT):
            told = stretches(plain_curve(curve), 6)
            self.assertEqual(len(told), 64)
            for one, expected in zip(told, stretches_of(curve, 6)):
                self.assert_curve(one, expected)

    def test_they_are_the_stretches_from_share_to_share(self):
        for curve in CURVES:
            handed = plain_curve(curve)
            for level in (1, 3):
                many = 2 ** level
                expected = [
                    stretch(handed, plain(Fraction(i, many)), plain(Fraction(i + 1, many))) for i in range(many)
                ]
                self.assertEqual(stretches(handed, level), expected)

    def test_points(self):
        for curve in (FOUR_SEATS, TWELVE_SEATS, HUNDRED_FIGURES):
            told = stretches(plain_curve(curve), 6)
            for i in (0, 1, 31, 62, 63):
                for u in (Fraction(0), Fraction(1), Fraction(1, 3)):
                    self.assertTrue(weighted(fractions_of(told[i]), u) == weighted(curve, (i + u) / 64))


class Meets(PartingCase):
    def assert_hulls_meet(self, one, other):
        """That the hulls of two lists of pairs have a point in common, which is shown by shares."""
        told = parting(plain_curve(one), plain_curve(other))
        self.assert_parting(told, one, other, "common")

    def assert_order(self, rows, size):
        """That these are tuples of this size in order, none twice, with whole numbers ahead."""
        self.assertIs(type(rows), list)
        for row in rows:
            self.assertIs(type(row), tuple)
            self.assertEqual(len(row), size)
        numbers = [row[:3] if size == 6 else row for row in rows]
        self.assertTrue(all(type(number) is int for row in numbers for number in row))
        self.assertEqual(numbers, sorted(set(numbers)))

    def assert_thrown(self, thrown, ones, others):
        """That each thrown pair is parted by its line, and lies in a pair that meets."""
        for level, i, j, *line in thrown:
            self.assert_line(line, ones[level][i], others[level][j])
            if level > 0:
                self.assert_hulls_meet(ones[level - 1][i // 2], others[level - 1][j // 2])

    def assert_all_filled(self, pairs, thrown, level):
        """That each pair of stretches of the level is told or lies in just one thrown pair."""
        times = {(i, j): 0 for i in range(2 ** level) for j in range(2 ** level)}
        for i, j in pairs:
            times[i, j] += 1
        for at, i, j, *line in thrown:
            self.assertLessEqual(at, level)
            many = 2 ** (level - at)
            for k in range(i * many, (i + 1) * many):
                for m in range(j * many, (j + 1) * many):
                    times[k, m] += 1
        self.assertEqual(set(times.values()), {1})

    def assert_meets(self, one, other, level):
        """That all the document says of these curves and this level holds."""
        told = meets(plain_curve(one), plain_curve(other), level)
        self.assertIs(type(told), tuple)
        self.assertEqual(len(told), 2)
        pairs, thrown = told
        self.assert_order(pairs, 2)
        self.assert_order(thrown, 6)
        ones = [stretches_of(one, at) for at in range(level + 1)]
        others = [stretches_of(other, at) for at in range(level + 1)]
        for i, j in pairs:
            self.assert_hulls_meet(ones[level][i], others[level][j])
        self.assert_thrown(thrown, ones, others)
        self.assert_all_filled(pairs, thrown, level)
        return told

    def test_each_level_of_many_pairs(self):
        for one, other in PAIRS:
            for level in range(4):
                with self.subTest(one=one, other=other, level=level):
                    self.assert_meets(one, other, level)
                    self.assert_meets(other, one, level)

    def test_level_six(self):
        for one, other in ((FLAT, UPRIGHT), (ARCH, BOWL), (LOOP, ARCH), (ARCH, TOUCHING), (FLAT, FAR_OFF)):
            with self.subTest(one=one, other=other):
                self.assert_meets(one, other, 6)

    def test_written_ones(self):
        # The one goes through 3 of 8 across, the other through 2 of 7 up.
        self.assertEqual(meets(plain_curve(FLAT), plain_curve(UPRIGHT), 0), ([(0, 0)], []))
        pairs, thrown = meets(plain_curve(FLAT), plain_curve(UPRIGHT), 2)
        self.assertEqual(pairs, [(1, 1)])
        self.assertEqual([row[:3] for row in thrown], [
            (1, 0, 1), (1, 1, 0), (1, 1, 1), (2, 0, 0), (2, 0, 1), (2, 1, 0),
        ])
        pairs, thrown = meets(plain_curve(FLAT), plain_curve(UPRIGHT), 3)
        self.assertEqual(pairs, [(2, 2), (3, 2)])

    def test_level_nought(self):
        for one, other in PAIRS:
            kind = parting(plain_curve(one), plain_curve(other))[0]
            pairs, thrown = self.assert_meets(one, other, 0)
            self.assertEqual((pairs, len(thrown)), ([(0, 0)], 0) if kind == "common" else ([], 1))

    def test_apart_from_the_first_level_on(self):
        for level in (0, 3, 6):
            pairs, thrown = meets(plain_curve(LOOP), plain_curve(FAR_OFF), level)
            self.assertEqual(pairs, [])
            self.assertEqual([row[:3] for row in thrown], [(0, 0, 0)])

    def test_places_where_curves_meet_are_told(self):
        # Known places: s on the one, t on the other, the same point.
        known = ((FLAT, UPRIGHT, Fraction(3, 8), Fraction(2, 7)), (ARCH, TOUCHING, Fraction(1, 2), Fraction(1, 2)),
                 (ARCH, ARCH[::-1], Fraction(1, 5), Fraction(4, 5)))
        for one, other, s, t in known:
            self.assertEqual(weighted(one, s), weighted(other, t))
            for level in range(6):
                pairs = meets(plain_curve(one), plain_curve(other), level)[0]
                many = 2 ** level
                self.assertTrue(any(i <= s * many <= i + 1 and j <= t * many <= j + 1 for i, j in pairs))

    def test_curves_of_one_seat(self):
        place, other = plain_curve(ONE_SEAT), plain_curve(seats((1, 1)))
        for level in range(5):
            many = 2 ** level
            everything = [(i, j) for i in range(many) for j in range(many)]
            self.assertEqual(meets(place, place, level), (everything, []))
        self.assert_meets(ONE_SEAT, ONE_SEAT, 4)
        for level in range(7):
            pairs, thrown = meets(place, other, level)
            self.assertEqual((pairs, [row[:3] for row in thrown]), ([], [(0, 0, 0)]))
        self.assertEqual(meets(plain_curve(seats((3, 0))), plain_curve(FLAT), 2)[0], [(i, 1) for i in range(4)])
        self.assertEqual(meets(plain_curve(FLAT), plain_curve(seats((4, 0))), 1)[0], [(0, 0), (0, 1), (1, 0), (1, 1)])

    def test_a_curve_with_itself(self):
        for curve in (FLAT, ARCH, TWO_SEATS):
            for level in (2, 6):
                pairs, thrown = self.assert_meets(curve, curve, level)
                many = 2 ** level
                self.assertEqual(pairs, [(i, j) for i in range(many) for j in range(many) if abs(i - j) <= 1])
        for curve in (LOOP, CLOSED, EIGHT):
            pairs, thrown = self.assert_meets(curve, curve, 4)
            self.assertLessEqual({(i, i) for i in range(16)}, set(pairs))
            self.assertEqual({(j, i) for i, j in pairs}, set(pairs))

    def test_turned_curves_have_turned_pairs(self):
        for one, other in PAIRS:
            pairs = meets(plain_curve(one), plain_curve(other), 3)[0]
            back = meets(plain_curve(one), turned(plain_curve(other)), 3)[0]
            self.assertEqual(back, sorted((i, 7 - j) for i, j in pairs))

    def test_more_than_the_most_pairs_is_refused(self):
        place = plain_curve(ONE_SEAT)
        self.assertEqual(len(meets(place, place, 4)[0]), 256)
        for curve in (place, place * 2, place * 8):
            for level in (5, 6):
                with self.assertRaises(TooMany):
                    meets(curve, place, level)
        folded = plain_curve(THERE_AND_BACK)
        self.assertLessEqual(len(meets(folded, plain_curve(FLAT), 5)[0]), 256)
        with self.assertRaises(TooMany):
            meets(folded, folded, 6)

    def test_just_the_most_pairs_and_one_more(self):
        for tops, other_tops, many in (((41, 99, 21, 67), (69, 30, 80), 256), ((47, 101, 19, 70), (66, 32, 76), 257)):
            one, other = seats(*[(x, 0) for x in tops]), seats(*[(x, 0) for x in other_tops])
            # On one straight line hulls meet where boxes do.
            ones, others = [[box_of(part) for part in stretches_of(curve, 6)] for curve in (one, other)]
            expected = [
                (i, j) for i in range(64) for j in range(64)
                if max(ones[i][0], others[j][0]) <= min(ones[i][2], others[j][2])
            ]
            self.assertEqual(len(expected), many)
            if many > 256:
                with self.assertRaises(TooMany):
                    meets(plain_curve(one), plain_curve(other), 6)
            else:
                self.assertEqual(meets(plain_curve(one), plain_curve(other), 6)[0], expected)

    def test_a_level_ahead_with_more_is_refused(self):
        one, other = plain_curve(walked(Fraction(0))), plain_curve(walked(Fraction(1, 200)))
        many = [len(meets(one, other, level)[0]) for level in range(7)]
        self.assertGreater(many[5], many[6])
        with mock.patch.object(module, "MOST_PAIRS", many[6]):
            for level, is_refused in ((4, False), (5, True), (6, True)):
                if is_refused:
                    with self.assertRaises(TooMany):
                        meets(one, other, level)
                else:
                    self.assertEqual(len(meets(one, other, level)[0]), many[level])
        with mock.patch.object(module, "MOST_PAIRS", many[5]):
            self.assertEqual(len(meets(one, other, 6)[0]), many[6])

    def test_eight_seats_of_hundred_figures(self):
        one = HUNDRED_FIGURES[:8]
        pairs, thrown = self.assert_meets(one, HUNDRED_FIGURES[4:], 2)
        told = meets(plain_curve(one), plain_curve(one), 6)
        self.assertLessEqual({(i, i) for i in range(64)}, set(told[0]))

    def test_told_curves_are_taken_again(self):
        s, t = plain(Fraction(1, HUNDRED)), plain(Fraction(HUNDRED - 1, HUNDRED))
        told = stretch(plain_curve(HUNDRED_FIGURES[:8]), s, t)
        self.assertGreater(max(number for place in told for one in place for number in one), 10 ** 1000)
        self.assert_meets(tuple(fractions_of(told)), FOUR_SEATS, 2)
        pairs, thrown = self.assert_meets(tuple(fractions_of(told)), tuple(fractions_of(told)), 1)
        self.assertLessEqual({(0, 0), (0, 1), (1, 0), (1, 1)}, set(pairs))


def box_of(places):
    """The box of pairs of fractions."""
    xs, ys = [x for x, y in places], [y for x, y in places]
    return (min(xs), min(ys), max(xs), max(ys))


def least_level(one, other, nearness):
    """The least level, in fractions, on which all boxes are small enough, or None."""
    for level in range(7):
        boxes = [box_of(part) for part in stretches_of(one, level) + stretches_of(other, level)]
        if all(right - left <= nearness and high - low <= nearness for left, low, right, high in boxes):
            return level
    return None


class Near(PartingCase):
    def assert_near(self, one, other, nearness):
        """That all the document says of these curves and this nearness holds."""
        level, places = told = near(plain_curve(one), plain_curve(other), plain(nearness))
        self.assertIs(type(told), tuple)
        self.assertIs(type(level), int)
        self.assertIs(type(places), list)
        self.assertEqual(level, least_level(one, other, nearness))
        self.assertEqual([(i, j) for i, j, common in places], meets(plain_curve(one), plain_curve(other), level)[0])
        ones, others = stretches_of(one, level), stretches_of(other, level)
        for i, j, common in places:
            mine, yours = box_of(ones[i]), box_of(others[j])
            expected = (max(mine[0], yours[0]), max(mine[1], yours[1]), min(mine[2], yours[2]), min(mine[3], yours[3]))
            self.assertIs(type(common), tuple)
            self.assertEqual(len(common), 4)
            for one_share, fraction in zip(common, expected):
                self.assert_share(one_share, fraction)
        return told

    def test_written_ones(self):
        flat, upright = plain_curve(FLAT), plain_curve(UPRIGHT)
        self.assertEqual(near(flat, upright, (8, 1)), (0, [(0, 0, ((3, 1), (0, 1), (3, 1), (0, 1)))]))
        self.assertEqual(near(flat, upright, (15, 2))[0], 1)
        self.assertEqual(near(flat, upright, (2, 1)), (2, [(1, 1, ((3, 1), (0, 1), (3, 1), (0, 1)))]))
        arch, bowl = plain_curve(ARCH), plain_curve(BOWL)
        self.assertEqual(near(arch, bowl, (8, 1)), (0, [(0, 0, ((0, 1), (-1, 1), (8, 1), (2, 1)))]))

    def test_many_pairs(self):
        for one, other in PAIRS:
            sides = box_of(one + other)
            size = max(sides[2] - sides[0], sides[3] - sides[1])
            for part in (1, 2, 5):
                if size > 0 and least_level(one, other, size / part) is not None:
                    with self.subTest(one=one, other=other, part=part):
                        self.assert_near(one, other, size / part)

    def test_least_level_on_the_very_edge(self):
        hair = Fraction(1, HUNDRED)
        for level in range(7):
            side = Fraction(8, 2 ** level)
            self.assertEqual(self.assert_near(FLAT, UPRIGHT, side)[0], level)
            if level < 6:
                self.assertEqual(near(plain_curve(FLAT), plain_curve(UPRIGHT), plain(side - hair))[0], level + 1)
        with self.assertRaises(TooMany):
            near(plain_curve(FLAT), plain_curve(UPRIGHT), plain(Fraction(1, 8) - hair))

    def test_both_sides_of_both_curves_count(self):
        short, across, up = seats((0, 0), (1, 1)), seats((0, 0), (4, 1)), seats((0, 0), (1, 4))
        for one in (across, up):
            self.assertEqual(near(plain_curve(one), plain_curve(short), (1, 1))[0], 2)
            self.assertEqual(near(plain_curve(short), plain_curve(one), (1, 1))[0], 2)
        self.assertEqual(near(plain_curve(short), plain_curve(short), (1, 1))[0], 0)

    def test_level_hangs_on_boxes_and_not_on_meeting(self):
        self.assertEqual(self.assert_near(FLAT, FAR_OFF, Fraction(2)), (3, []))
        with self.assertRaises(TooMany):
            near(plain_curve(FLAT), plain_curve(FAR_OFF), (1, 100))

    def test_no_level_is_refused(self):
        for one, other in ((FLAT, FLAT), (ARCH, FAR_OFF), (ONE_SEAT, FLAT), (FLAT, ONE_SEAT), (EIGHT, EIGHT)):
            with self.assertRaises(TooMany):
                near(plain_curve(one), plain_curve(other), (1, THIRTY))

    def test_too_many_pairs_are_refused(self):
        folded = plain_curve(THERE_AND_BACK)
        self.assertEqual(near(folded, folded, (2, 1))[0], 3)
        self.assertEqual(least_level(THERE_AND_BACK, THERE_AND_BACK, Fraction(1, 4)), 6)
        with self.assertRaises(TooMany):
            near(folded, folded, (1, 4))

    def test_curves_of_one_seat(self):
        place = plain_curve(ONE_SEAT)
        self.assertEqual(near(place, place, (1, HUNDRED)), (0, [(0, 0, box(place))]))
        self.assertEqual(near(place, plain_curve(seats((5, 5))), (1, HUNDRED)), (0, []))
        self.assert_near(seats((4, 3)), ARCH, Fraction(1))

    def test_raised_curve_is_near_in_the_same_way(self):
        level, places = near(plain_curve(ARCH), raised(plain_curve(ARCH)), (1, 2))
        self.assertLessEqual({(i, i) for i in range(2 ** level)}, {(i, j) for i, j, common in places})

    def test_told_curves_are_taken_again(self):
        s, t = plain(Fraction(1, HUNDRED)), plain(Fraction(HUNDRED - 1, HUNDRED))
        told = fractions_of(stretch(plain_curve(HUNDRED_FIGURES[:8]), s, t))
        sides = box_of(told)
        self.assert_near(tuple(told), tuple(told), max(sides[2] - sides[0], sides[3] - sides[1]) / 2)


if __name__ == "__main__":
    unittest.main()
