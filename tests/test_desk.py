import unittest
from itertools import product

from curveseat.curves import point
from curveseat.cuts import cut, stretch, turned
from curveseat.desk import DEEDS, FORMS, Desk
from curveseat.errors import NoLower, NoName, NoText, SeatError, TooMany
from curveseat.hulls import box, hull
from curveseat.joins import smoothness
from curveseat.maps import mapped
from curveseat.meets import meets
from curveseat.partings import parting
from curveseat.raising import least, lowered, raised, same
from curveseat.speeds import speed
from curveseat.texts import read_curve, read_share, show_curve, show_point, show_share
from tests.test_texts import BAD_SHARES, NO_TEXTS

ARCH = "0,0 1,2 2,0"
FLAT = "0,0 8,0"
UPRIGHT = "3,-2 3,5"
PLACE = "-1/2,3"
CURVES = (ARCH, FLAT, UPRIGHT, PLACE, "1/2,-3 0,0 0,0 5,-7/3", "0,0 1,1 2,2", " ".join(["1,1"] * 8))
SHARES = ("0", "1", "1/2", "-3", "7/3", "-1/5", "9" * 100, "1/" + "9" * 100)
LONGEST = "abcdefghijkl"
NO_NAMES = (
    "", "A", "aB", "a1", "1", "0", "a_b", "a-b", "a.b", "a,b", "abcdefghijklm", "a" * 13, "a" * 100, "\u00e4", "a\n", "\ta",
    "a|b", "~", "{", "`", "@", "Z", "1,2",
)
# One good row of each kind, asked on a desk with the curves one, two and far.
ROWS = (
    "curve new 1,2", "curve new 1,2 3,4", "tell one", "names", "point one 1/2", "cut one 1/2 new newer",
    "stretch one 0 1/2 new", "turn one", "raise one", "lower two", "least two", "speed one new", "move one 1 0 0 1 0 0",
    "same one two", "hull one", "box one", "part one two", "meet one two 0", "join one two",
)


def desk_of(*curves):
    """A desk that keeps these curves as a, b, c and so on."""
    desk = Desk()
    for name, curve in zip("abcdefgh", curves):
        desk.say(f"curve {name} {curve}")
    return desk


def laid_desk():
    """The desk that ROWS speak of."""
    desk = Desk()
    for row in (f"curve one {ARCH}", "curve two 0,0 1,1 2,2", "curve far 90,90"):
        desk.say(row)
    return desk


def all_told(desk):
    """All that a desk keeps, by names."""
    names = desk.say("names")
    return {} if names == "none" else {name: desk.say(f"tell {name}") for name in names.split(" ")}


class DeskCase(unittest.TestCase):
    def assert_say(self, desk, row, answer):
        told = desk.say(row)
        self.assertIs(type(told), str)
        self.assertEqual(told, answer)

    def assert_refused(self, desk, row, refusal):
        """That a row is refused with just this, and changes nothing."""
        before = all_told(desk)
        with self.subTest(row=row):
            with self.assertRaises(refusal) as caught:
                desk.say(row)
            self.assertIs(type(caught.exception), refusal)
            self.assertEqual(all_told(desk), before)


class Keeping(DeskCase):
    def test_curve_and_tell(self):
        for curve in CURVES:
            desk = Desk()
            self.assert_say(desk, f"curve a {curve}", "ok")
            self.assert_say(desk, "tell a", curve)
            self.assert_say(desk, "tell a", curve)

    def test_a_new_curve_under_an_old_name(self):
        desk = desk_of(ARCH, FLAT)
        self.assert_say(desk, f"curve a {PLACE}", "ok")
        self.assertEqual(all_told(desk), {"a": PLACE, "b": FLAT})

    def test_one_to_twelve_points(self):
        for many in range(1, 13):
            desk = Desk()
            curve = " ".join(f"{k},-1/{k + 2}" for k in range(many))
            self.assert_say(desk, f"curve a {curve}", "ok")
            self.assert_say(desk, "tell a", curve)
        for many in (0, 13, 14, 40):
            self.assert_refused(laid_desk(), " ".join(["curve new"] + ["1,2"] * many), NoText)

    def test_names_in_order(self):
        desk = Desk()
        self.assert_say(desk, "names", "none")
        given = ("b", "ab", "a", "abc", "z", "aa", LONGEST, "ba", "names", "none", "curve", "abcdefghijk", "aab")
        for name in given:
            self.assert_say(desk, f"curve {name} 1,2", "ok")
        self.assert_say(desk, "names", " ".join((
            "a", "aa", "aab", "ab", "abc", "abcdefghijk", LONGEST, "b", "ba", "curve", "names", "none", "z",
        )))
        self.assert_say(desk, "curve a 3,4", "ok")
        self.assertEqual(len(desk.say("names").split(" ")), len(given))

    def test_names_of_one_and_of_twelve_letters(self):
        desk = Desk()
        for name in ("a", "z", "m", LONGEST, "zzzzzzzzzzzz", "opqrstuvwxyz", "tell", "ok"):
            self.assert_say(desk, f"curve {name} 1,2", "ok")
            self.assert_say(desk, f"tell {name}", "1,2")
            self.assert_say(desk, f"cut {name} 1/2 {name} {name}", "ok")

    def test_two_desks_side_by_side(self):
        one, other = Desk(), Desk()
        self.assert_say(one, f"curve a {ARCH}", "ok")
        self.assert_say(other, "names", "none")
        self.assert_refused(other, "tell a", NoName)
        self.assert_say(other, f"curve a {FLAT}", "ok")
        self.assert_say(other, "raise a", "ok")
        self.assert_say(one, "tell a", ARCH)
        self.assert_say(one, "turn a", "ok")
        self.assert_say(other, "tell a", "0,0 4,0 8,0")


class Answers(DeskCase):
    def test_point(self):
        self.assert_say(desk_of(ARCH), "point a 1/2", "1,1")
        self.assert_say(desk_of(ARCH), "point a -1", "-2,-8")
        for curve in CURVES:
            for t in SHARES:
                self.assert_say(desk_of(curve), f"point a {t}", show_point(point(read_curve(curve), read_share(t))))

    def test_cut(self):
        for curve in CURVES:
            for t in SHARES:
                desk = desk_of(curve)
                self.assert_say(desk, f"cut a {t} b c", "ok")
                first, second = [show_curve(part) for part in cut(read_curve(curve), read_share(t))]
                self.assertEqual(all_told(desk), {"a": curve, "b": first, "c": second})

    def test_cut_under_names_that_are_there(self):
        first, second = [show_curve(part) for part in cut(read_curve(ARCH), (1, 2))]
        for row, expected in (
            ("cut a 1/2 a b", {"a": first, "b": second}), ("cut a 1/2 b a", {"a": second, "b": first}),
            ("cut a 1/2 a a", {"a": second, "b": FLAT}), ("cut a 1/2 b b", {"a": ARCH, "b": second}),
            ("cut a 1/2 c c", {"a": ARCH, "b": FLAT, "c": second}),
        ):
            desk = desk_of(ARCH, FLAT)
            self.assert_say(desk, row, "ok")
            self.assertEqual(all_told(desk), expected)

    def test_stretch(self):
        for curve in CURVES:
            for s, t in product(SHARES[:6], SHARES[:6]):
                desk = desk_of(curve)
                self.assert_say(desk, f"stretch a {s} {t} b", "ok")
                expected = show_curve(stretch(read_curve(curve), read_share(s), read_share(t)))
                self.assertEqual(all_told(desk), {"a": curve, "b": expected})
        desk = desk_of(ARCH, FLAT)
        self.assert_say(desk, "stretch a 1 0 a", "ok")
        self.assertEqual(all_told(desk), {"a": "2,0 1,2 0,0", "b": FLAT})

    def test_rows_that_change_the_curve_itself(self):
        for row, deed in (
            ("turn", turned), ("raise", raised), ("least", least),
        ):
            for curve in CURVES:
                desk = desk_of(curve, FLAT)
                self.assert_say(desk, f"{row} a", "ok")
                self.assertEqual(all_told(desk), {"a": show_curve(deed(read_curve(curve))), "b": FLAT})

    def test_raise_is_refused_at_twelve_seats(self):
        twelve = " ".join(f"{k},1" for k in range(12))
        desk = desk_of(twelve, " ".join(twelve.split(" ")[:11]))
        self.assert_refused(desk, "raise a", TooMany)
        self.assert_say(desk, "raise b", "ok")
        self.assert_refused(desk, "raise b", TooMany)

    def test_lower(self):
        desk = desk_of("0,0 1,1 2,2", ARCH, PLACE, FLAT)
        self.assert_say(desk, "lower a", "ok")
        self.assert_say(desk, "tell a", show_curve(lowered(read_curve("0,0 1,1 2,2"))))
        for row in ("lower a", "lower b", "lower c", "lower d"):
            self.assert_refused(desk, row, NoLower)
        self.assert_say(desk, "raise b", "ok")
        self.assert_say(desk, "lower b", "ok")
        self.assert_say(desk, "tell b", ARCH)

    def test_least(self):
        desk = desk_of(" ".join(["1/3,-5"] * 12), ARCH)
        self.assert_say(desk, "least a", "ok")
        self.assert_say(desk, "tell a", "1/3,-5")
        self.assert_say(desk, "least a", "ok")
        self.assert_say(desk, "least b", "ok")
        self.assertEqual(all_told(desk), {"a": "1/3,-5", "b": ARCH})

    def test_speed(self):
        for curve in CURVES:
            desk = desk_of(curve)
            expected = show_curve(speed(read_curve(curve)))
            self.assert_say(desk, "speed a b", "ok")
            self.assertEqual(all_told(desk), {"a": curve, "b": expected})
            self.assert_say(desk, "speed a a", "ok")
            self.assertEqual(all_told(desk), {"a": expected, "b": expected})
        self.assert_say(desk_of(PLACE), "speed a a", "ok")

    def test_move(self):
        for curve in CURVES:
            for by in ("1 0 0 1 0 0", "0 -1 1 0 3 0", "2 1/2 -1/3 4 5/7 -6", "0 0 0 0 1 2"):
                desk = desk_of(curve, FLAT)
                self.assert_say(desk, f"move a {by}", "ok")
                the_map = tuple(read_share(one) for one in by.split(" "))
                self.assertEqual(all_told(desk), {"a": show_curve(mapped(read_curve(curve), the_map)), "b": FLAT})
        desk = desk_of("1,2")
        self.assert_say(desk, "move a 2 3 5 7 11 13", "ok")
        self.assert_say(desk, "tell a", "19,32")

    def test_same(self):
        for one, other in product(CURVES, CURVES):
            expected = "yes" if same(read_curve(one), read_curve(other)) else "no"
            self.assert_say(desk_of(one, other), "same a b", expected)
        desk = desk_of(ARCH, ARCH)
        self.assert_say(desk, "raise b", "ok")
        self.assert_say(desk, "same a b", "yes")
        self.assert_say(desk, "same a a", "yes")
        self.assert_say(desk, "turn b", "ok")
        self.assert_say(desk, "same a b", "no")

    def test_hull_and_box(self):
        self.assert_say(desk_of("0,0 1,2 2,0 1,1"), "hull a", "0,0 2,0 1,2")
        self.assert_say(desk_of("1/2,-3 -1/3,2"), "box a", "-1/3 -3 1/2 2")
        for curve in CURVES:
            desk = desk_of(curve)
            self.assert_say(desk, "hull a", show_curve(hull(read_curve(curve))))
            self.assert_say(desk, "box a", " ".join(show_share(one) for one in box(read_curve(curve))))
            self.assertEqual(all_told(desk), {"a": curve})

    def test_part(self):
        kinds = []
        for one, other in product(CURVES, CURVES):
            kinds.append(parting(read_curve(one), read_curve(other))[0])
            self.assert_say(desk_of(one, other), "part a b", kinds[-1])
        self.assertEqual(set(kinds), {"line", "common"})
        self.assert_say(desk_of(FLAT), "part a a", "common")
        self.assert_say(desk_of(FLAT, "0,1"), "part a b", "line")

    def test_meet(self):
        desk = desk_of(FLAT, UPRIGHT, "0,9 9,9")
        self.assert_say(desk, "meet a b 0", "0:0")
        self.assert_say(desk, "meet a b 3", "2:2 3:2")
        self.assert_say(desk, "meet b a 3", "2:2 2:3")
        for level in range(7):
            self.assert_say(desk, f"meet a c {level}", "none")
            pairs = meets(read_curve(FLAT), read_curve(FLAT), level)[0]
            self.assert_say(desk, f"meet a a {level}", " ".join(f"{i}:{j}" for i, j in pairs))

    def test_meet_is_refused_where_too_many_meet(self):
        desk = desk_of(PLACE)
        self.assertEqual(len(desk.say("meet a a 4").split(" ")), 256)
        for level in (5, 6):
            self.assert_refused(desk, f"meet a a {level}", TooMany)

    def test_join(self):
        desk = desk_of(ARCH, "2,0 4,-4", "2,0 3,0", PLACE)
        for row, answer in (
            ("join a b", "1"), ("join a c", "0"), ("join b a", "-1"), ("join d d", "11"), ("join a d", "-1"), ("join a a", "-1"),
        ):
            self.assert_say(desk, row, answer)
        for one, other in product(CURVES, CURVES):
            expected = str(smoothness(read_curve(one), read_curve(other), 11))
            self.assert_say(desk_of(one, other), "join a b", expected)

    def test_numbers_grow_and_are_told(self):
        desk = desk_of(" ".join(f"1/{10 ** 99 + k},{k}" for k in range(1, 13)))
        t = "1/" + "9" * 100
        self.assert_say(desk, f"cut a {t} b c", "ok")
        self.assertGreater(len(desk.say("tell c")), 6000)
        self.assert_say(desk, f"point c {t}", desk.say(f"point c {t}"))
        for turn in range(3):
            self.assert_say(desk, f"stretch c {t} 1/2 c", "ok")
        self.assertGreater(max(len(word) for word in desk.say("tell c").split(" ")), 5000)


class NotWritten(DeskCase):
    def test_no_texts_are_refused(self):
        for thing in NO_TEXTS + (["names"], ("tell", "one")):
            self.assert_refused(laid_desk(), thing, NoText)

    def test_good_rows_are_good(self):
        self.assertEqual({row.split(" ")[0] for row in ROWS}, set(DEEDS))
        self.assertEqual(set(FORMS) | {"curve"}, set(DEEDS))
        for row in ROWS:
            laid_desk().say(row)

    def test_blanks_too_many_or_too_few(self):
        for row in ROWS:
            words = row.split(" ")
            broken = [" " + row, row + " ", row.replace(" ", "  ", 1) + ("" if " " in row else "  "), row + "\n", "\n" + row]
            broken += ["\t" + row, row + "\t", row.replace(" ", "\t") + "\t", "".join(words) + "x", " ".join(words) + " \n"]
            for one in broken:
                self.assert_refused(laid_desk(), one, NoText)

    def test_words_too_many_or_too_few(self):
        for row in ROWS:
            words = row.split(" ")
            if words[0] != "curve":
                for more in ("one", "1", "1,2", "new", "0"):
                    self.assert_refused(laid_desk(), f"{row} {more}", NoText)
            for many in range(1, len(words)):
                if words[:many] not in [other.split(" ") for other in ROWS]:
                    self.assert_refused(laid_desk(), " ".join(words[:many]), NoText)

    def test_other_first_words(self):
        for row in (
            "", " ", "  ", "one", "Tell one", "TELL one", "tel one", "tells one", "name", "Names", "none", "ok", "help", "map one",
            "path one 1,2", "1,2", "through one", "curves", "tell\none", "tell\tone", "share 1/2", "|", "new one", "near one two 1",
        ):
            self.assert_refused(laid_desk(), row, NoText)

    def test_names_that_are_none(self):
        for name in NO_NAMES:
            for row in ROWS:
                words = row.split(" ")
                for at, word in enumerate(words):
                    if at > 0 and word in ("one", "two", "new", "newer"):
                        broken = " ".join(words[:at] + [name] + words[at + 1:])
                        self.assert_refused(laid_desk(), broken, NoText)

    def test_shares_that_are_none(self):
        for bad in BAD_SHARES:
            for row in (
                f"point one {bad}", f"cut one {bad} new newer", f"stretch one {bad} 1 new", f"stretch one 0 {bad} new",
                f"move one {bad} 0 0 1 0 0", f"move one 1 0 0 1 0 {bad}", f"curve new {bad},1", f"curve new 1,2 3,{bad}",
            ):
                self.assert_refused(laid_desk(), row, NoText)

    def test_levels_that_are_none(self):
        for bad in ("7", "8", "9", "-1", "00", "01", "10", "06", "+1", "1/2", "", "a", "1.0", "-0", "\u0663", "six", "0\n"):
            self.assert_refused(laid_desk(), f"meet one two {bad}", NoText)


class NotThere(DeskCase):
    def test_names_that_no_curve_has(self):
        for row in ROWS:
            words = row.split(" ")
            for at, word in enumerate(words):
                if at > 0 and word in ("one", "two"):
                    for name in ("x", "ones", "on", LONGEST, "new"):
                        broken = " ".join(words[:at] + [name] + words[at + 1:])
                        self.assert_refused(laid_desk(), broken, NoName)
                        self.assert_refused(Desk(), broken, NoName)

    def test_new_names_need_no_curve(self):
        for row in ("curve x 1,2", "cut one 1/2 x y", "stretch one 0 1 x", "speed one x"):
            self.assert_say(laid_desk(), row, "ok")


class Order(DeskCase):
    def test_no_text_is_ahead_of_no_name(self):
        for row in (
            "point x 2/4", "cut x 1/2 A b", "cut x 1/2 a B", "cut x 1/0 a b", "stretch x 0 01 a", "stretch x 0 1 A", "speed x A",
            "move x 1 0 0 1 0 -0", "same x A", "same A x", "part x 1", "meet x y 7", "meet x one -1", "join x Y", "turn x x",
            "tell x ", "hull x 1", "names x", "raise x y",
        ):
            self.assert_refused(laid_desk(), row, NoText)

    def test_no_text_is_ahead_of_what_stands_in_brackets(self):
        desk = desk_of(" ".join(["1,1"] * 12), ARCH, PLACE)
        for row in ("raise a ", "raise a a", "lower b b", "lower b\n", "meet c c 7", "meet c c 5 ", "meet c c 05"):
            self.assert_refused(desk, row, NoText)

    def test_no_name_is_ahead_of_what_stands_in_brackets(self):
        desk = desk_of(" ".join(["1,1"] * 12), ARCH, PLACE)
        for row in ("raise x", "lower x", "meet c x 5", "meet x c 6", "meet x y 6"):
            self.assert_refused(desk, row, NoName)
        for row, refusal in (("raise a", TooMany), ("lower b", NoLower), ("meet c c 5", TooMany)):
            self.assert_refused(desk, row, refusal)

    def test_what_is_refused_changes_nothing(self):
        desk = laid_desk()
        before = all_told(desk)
        for row in (
            "curve one 1,2 2/4,1", "curve one", "cut one 1/2 one A", "cut one 1/2 one", "cut x 1/2 one two", "turn one one",
            "stretch one 0 1 One", "stretch x 0 1 one", "speed x one", "speed one ONE", "move one 1 0 0 1 0", "lower one",
            "move one 1 0 0 1 0 1/1", "meet far far 6", None, ["curve one 1,2"], 7,
        ):
            with self.assertRaises(SeatError):
                desk.say(row)
        self.assertEqual(all_told(desk), before)
        self.assertEqual(desk.say("names"), "far one two")


if __name__ == "__main__":
    unittest.main()
