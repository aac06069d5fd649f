import unittest

from curveseat.errors import NoJoin, NoText
from curveseat.paths import Path
from curveseat.texts import read_curve, read_path, read_point, read_share
from curveseat.texts import show_curve, show_path, show_point, show_share
from tests.samples import CURVES, HUNDRED, HUNDRED_FIGURES, SHARES, THIRTY, TOLD, TOLD_OTHER, ShareCase, plain_curve
from tests.test_paths import ALL, plain_path

NINES = "9" * 100
GOOD_SHARES = (
    ("0", (0, 1)), ("1", (1, 1)), ("-1", (-1, 1)), ("3", (3, 1)), ("-3/4", (-3, 4)), ("1/2", (1, 2)), ("10", (10, 1)),
    ("100/7", (100, 7)), ("-12/35", (-12, 35)), ("1/10", (1, 10)), ("7/100", (7, 100)), ("-1/2", (-1, 2)),
    (NINES, (10 ** 100 - 1, 1)), ("-" + NINES, (1 - 10 ** 100, 1)), (f"1/{NINES}", (1, 10 ** 100 - 1)),
    (f"-1{'0' * 99}/{NINES}", (-10 ** 99, 10 ** 100 - 1)), (f"{THIRTY}/{THIRTY + 1}", (THIRTY, THIRTY + 1)),
)
BAD_SHARES = (
    # Bottoms: nought, one, below nought, with noughts ahead, none, too many.
    "1/0", "0/0", "-1/0", "1/1", "5/1", "0/1", "-3/1", "1/-2", "3/-4", "-3/-4", "1/02", "3/04", "1/00", "1/01", "1/",
    "/2", "/", "1//2", "1/2/3", "1/2/", "1/+2",
    # Not in lowest terms.
    "2/4", "6/8", "-6/8", "0/2", "0/7", "3/3", "4/2", "10/5", "-2/2", f"{NINES}/3",
    # Signs and noughts ahead.
    "-0", "+0", "+1", "+1/2", "--1", "-+1", "- 1", "-", "+", "00", "01", "-01", "007", "-00", "-0/2", "-0/1", "01/2",
    # Blanks, line ends, tabs.
    "", " ", " 1", "1 ", "1 /2", "1/ 2", "1/2 ", " 1/2", "1 2", "\n", "1\n", "\n1", "1/2\n", "1\t", "\t1", "1/\t2", "1\r",
    # Other writing.
    "a", "1a", "a1", "1.0", "1.5", ".5", "1e3", "1_0", "0x1", "1,2", "1|2", "½", "²", "1²", "None", "True", "1/b", "١",
    "1/٢", "~", "1:2", "(1, 2)", "1;2",
    # More than a hundred figures.
    "1" + "0" * 100, "-1" + "0" * 100, "1/1" + "0" * 100, f"{NINES}9/2", "0" * 101, "1" * 3000, "9" * 5000,
)
NO_TEXTS = (
    0, 1, -1, 12, HUNDRED, True, False, None, [], (), ["1"], ("1",), [1], (1, 2), (0, 1), ((1, 2), (3, 4)), [(1, 2)],
    [((1, 2), (3, 4))], ["1,2"], ["1,2", "3,4"], [[[[["1"]]]]], (((((1,),),),),), [None], [True, (None, "a")], ["tell a"],
)


class CaseOfTexts(ShareCase):
    def assert_refused(self, call, things, refusal=NoText):
        for thing in things:
            with self.subTest(call=call.__name__, thing=thing), self.assertRaises(refusal):
                call(thing)


class Shares(CaseOfTexts):
    def test_written_and_read(self):
        for text, one in GOOD_SHARES:
            self.assertEqual(show_share(one), text)
            self.assertEqual(read_share(text), one)
            self.assert_form(read_share(text))

    def test_there_and_back(self):
        for one in SHARES:
            self.assertEqual(read_share(show_share(one)), one)

    def test_all_small_ones(self):
        for top in range(-13, 14):
            self.assertEqual(show_share((top, 1)), str(top))
            for bottom in range(-2, 14):
                text = f"{top}/{bottom}"
                fits = bottom > 1 and all(top % k or bottom % k for k in range(2, 14))
                if fits:
                    self.assertEqual(show_share(read_share(text)), text)
                else:
                    self.assert_refused(read_share, [text])

    def test_all_else_is_refused(self):
        self.assert_refused(read_share, BAD_SHARES)

    def test_hundred_figures_are_the_most(self):
        self.assertEqual(read_share("7" * 100), (int("7" * 100), 1))
        self.assertEqual(read_share("-" + "7" * 100), (-int("7" * 100), 1))
        self.assert_refused(read_share, ["7" * 101, "-" + "7" * 101, "7" * 101 + "/2", "2/" + "7" * 101])

    def test_no_texts_are_refused(self):
        self.assert_refused(read_share, NO_TEXTS)

    def test_told_numbers_are_written(self):
        self.assertEqual(show_share((TOLD, TOLD_OTHER)), f"{TOLD}/{TOLD_OTHER}")
        self.assertEqual(show_share((-TOLD, 1)), f"-{TOLD}")
        for figures in (63, 64, 65, 127, 128, 129, 3000):
            for number in (10 ** figures, 10 ** figures - 1, 10 ** figures + 7, -10 ** figures):
                self.assertEqual(show_share((number, 1)), str(number))

    def test_greater_numbers_are_written_too(self):
        self.assertEqual(show_share((10 ** 9000 + 12, 1)), "1" + "0" * 8998 + "12")


class Points(CaseOfTexts):
    def test_written_and_read(self):
        for text, one in (("1/2,-3", ((1, 2), (-3, 1))), ("0,0", ((0, 1), (0, 1))), ("-1/7,8/3", ((-1, 7), (8, 3)))):
            self.assertEqual(show_point(one), text)
            self.assertEqual(read_point(text), one)
            self.assert_point_form(read_point(text))

    def test_there_and_back(self):
        for x, one in GOOD_SHARES:
            for y, other in GOOD_SHARES:
                self.assertEqual(show_point((one, other)), f"{x},{y}")
                self.assertEqual(read_point(f"{x},{y}"), (one, other))

    def test_all_else_is_refused(self):
        self.assert_refused(read_point, (
            "", ",", "1", "1,", ",1", "1,2,3", "1,2,", ",1,2", "1,,2", "1, 2", "1 ,2", " 1,2", "1,2 ", "1 2", "1;2", "1,2\n",
            "1\n,2", "1,\t2", "1,2 3,4", "(1,2)", "1/2", "1|2", "1,2|", "-0,1", "1,+1", "1,2/4", "1/1,2", "1,1/0", "01,1",
        ))

    def test_either_share_may_be_the_bad_one(self):
        for bad in BAD_SHARES:
            self.assert_refused(read_point, [f"{bad},1", f"1,{bad}"])

    def test_no_texts_are_refused(self):
        self.assert_refused(read_point, NO_TEXTS)


class Curves(CaseOfTexts):
    def test_written_and_read(self):
        curve = [((1, 2), (-3, 1)), ((0, 1), (0, 1)), ((0, 1), (0, 1))]
        self.assertEqual(show_curve(curve), "1/2,-3 0,0 0,0")
        self.assertEqual(read_curve("1/2,-3 0,0 0,0"), curve)
        self.assertEqual(read_curve("5,6"), [((5, 1), (6, 1))])

    def test_there_and_back(self):
        self.assertEqual({len(curve) for curve in CURVES}, set(range(1, 13)))
        for curve in CURVES + (HUNDRED_FIGURES,):
            text = show_curve(plain_curve(curve))
            told = read_curve(text)
            self.assert_curve(told, curve)
            self.assertEqual(show_curve(told), text)

    def test_twelve_and_thirteen_seats(self):
        self.assertEqual(len(read_curve(" ".join(["1,2"] * 12))), 12)
        self.assert_refused(read_curve, [" ".join(["1,2"] * many) for many in (13, 14, 100)])

    def test_blanks_too_many_are_refused(self):
        self.assert_refused(read_curve, (
            "", " ", "  ", " 1,2", "1,2 ", "1,2  3,4", " 1,2 3,4", "1,2 3,4 ", "1,2 3,4  ", "1, 2 3,4", "1 ,2", "1,2\t3,4",
            "1,2\n3,4", "1,2 3,4\n", "\n1,2", "1,2 \n3,4", "1,2\r\n3,4",
        ))

    def test_all_else_is_refused(self):
        self.assert_refused(read_curve, (
            "1", "1 2", "1,2 3", "1,2,3,4", "1,2 | 3,4", "1,2|3,4", "1,2 |", "|", "1,2;3,4", "a", "1,2 a", "1,2 -0,1", "none",
        ))
        for bad in BAD_SHARES:
            self.assert_refused(read_curve, [f"1,2 {bad},3 4,5", f"1,{bad}", f"0,0 1,{bad}"])

    def test_no_texts_are_refused(self):
        self.assert_refused(read_curve, NO_TEXTS)

    def test_each_told_list_is_new(self):
        first, second = read_curve("1,2 3,4"), read_curve("1,2 3,4")
        first.append("spoilt")
        self.assertEqual(second, read_curve("1,2 3,4"))


class Paths(CaseOfTexts):
    def test_written_and_read(self):
        curves = [[((1, 1), (2, 1)), ((3, 1), (4, 1))], [((3, 1), (4, 1))], [((3, 1), (4, 1)), ((-1, 2), (0, 1))]]
        text = "1,2 3,4 | 3,4 | 3,4 -1/2,0"
        self.assertEqual(show_path(Path(curves)), text)
        self.assertIsInstance(read_path(text), Path)
        self.assertEqual(read_path(text).curves(), curves)
        self.assertEqual(read_path("5,6").curves(), [[((5, 1), (6, 1))]])

    def test_there_and_back(self):
        for curves in ALL:
            handed = plain_path(curves)
            text = show_path(Path(handed))
            self.assertEqual(text, " | ".join(show_curve(curve) for curve in handed))
            if max(len(number.lstrip("-")) for number in text.replace(",", " ").replace("/", " ").split()) <= 100:
                self.assertEqual(read_path(text).curves(), handed)
                self.assertEqual(show_path(read_path(text)), text)

    def test_twelve_and_thirteen_curves(self):
        self.assertEqual(len(read_path(" | ".join(["1,2"] * 12)).curves()), 12)
        self.assert_refused(read_path, [" | ".join(["1,2"] * many) for many in (13, 14, 100)])
        self.assertEqual(len(read_path(" | ".join([" ".join(["1,2"] * 12)] * 12)).curves()), 12)
        self.assert_refused(read_path, ["1,2 | " + " ".join(["1,2"] * 13)])

    def test_curves_that_do_not_join_are_refused(self):
        self.assert_refused(read_path, (
            "1,2 | 3,4", "1,2 3,4 | 1,2 3,4", "1,2 3,4 | 3,4 | 4,3", "1,2 3,4 | 3,5", "0,0 | 1/2,0",
        ), NoJoin)

    def test_what_is_no_text_of_a_path_is_refused_ahead_of_what_does_not_join(self):
        self.assert_refused(read_path, (
            "1,2 | 3,4 ", "1,2 | 3,4 | -0,1", "1,2 | 3,4 | 5", " | ".join(["1,2", "3,4"] * 7), "1,2 | 3,4 |", "1,2 | 2/4,1",
        ))

    def test_all_else_is_refused(self):
        self.assert_refused(read_path, (
            "", " ", "|", " | ", " | 1,2", "1,2 | ", "1,2 |", "| 1,2", "1,2|1,2", "1,2 |1,2", "1,2| 1,2", "1,2  | 1,2",
            "1,2 |  1,2", "1,2 | | 1,2", "1,2 || 1,2", "1,2 |  | 1,2", " 1,2 | 1,2", "1,2 | 1,2 ", "1,2 | 1,2\n", "1,2\n|\n1,2",
            "1,2\t|\t1,2", "1,2 / 1,2", "1 | 1", "1,2 | a",
        ))
        for bad in BAD_SHARES:
            self.assert_refused(read_path, [f"1,2 | 1,2 {bad},3", f"{bad},1 | {bad},1"])

    def test_no_texts_are_refused(self):
        self.assert_refused(read_path, NO_TEXTS)


class EachRead(CaseOfTexts):
    def test_nothing_handed_in_is_changed(self):
        for call in (read_share, read_point, read_curve, read_path):
            thing = ["1,2", ["3,4", ("5", [6])]]
            self.assert_refused(call, [thing])
            self.assertEqual(thing, ["1,2", ["3,4", ("5", [6])]])
        curve = plain_curve(CURVES[4])
        show_curve(curve)
        self.assertEqual(curve, plain_curve(CURVES[4]))


if __name__ == "__main__":
    unittest.main()
