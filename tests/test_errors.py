import unittest
from copy import deepcopy

from curveseat import errors
from curveseat.desk import Desk
from curveseat.errors import NoJoin, NoLower, NoMap, NoName, NoPlace, NoShare, NoText, SeatError, TooMany
from curveseat.maps import back
from curveseat.meets import meets, near
from curveseat.paths import Path
from curveseat.raising import lowered, raised
from curveseat.shares import over, share
from curveseat.texts import read_curve, read_path, read_point, read_share

REFUSALS = (NoShare, NoLower, NoMap, NoJoin, NoPlace, TooMany, NoText, NoName)
SEAT, OTHER_SEAT = ((1, 2), (3, 1)), ((-1, 3), (4, 1))
FLAT = ((1, 1), (2, 1), (2, 1), (4, 1), (5, 1), (6, 1))
# Each refusal that a call tells: its class, the call and what is handed in.
DEEDS = (
    (NoShare, share, (1, 0)), (NoShare, over, ((1, 2), (0, 1))),
    (TooMany, raised, ([SEAT, OTHER_SEAT] * 6,)),
    (NoLower, lowered, ([SEAT],)), (NoLower, lowered, ([SEAT, OTHER_SEAT],)),
    (NoLower, lowered, ([SEAT, SEAT, OTHER_SEAT],)),
    (NoMap, back, (FLAT,)),
    (TooMany, meets, ([SEAT], [SEAT], 5)), (TooMany, meets, ([SEAT], [SEAT], 6)),
    (TooMany, near, ([SEAT], [SEAT, OTHER_SEAT], (1, 1000))),
    (NoJoin, Path, ([],)), (NoJoin, Path, ([[SEAT], [OTHER_SEAT]],)), (NoJoin, Path, ([[SEAT]] * 13,)),
    (NoPlace, Path([[SEAT, OTHER_SEAT]]).point, ((-1, 2),)), (NoPlace, Path([[SEAT, OTHER_SEAT]]).point, ((3, 2),)),
    (NoPlace, Path([[SEAT, OTHER_SEAT]]).cut, ((0, 1),)), (NoPlace, Path([[SEAT, OTHER_SEAT]]).cut, ((1, 1),)),
    (NoText, read_share, ("2/4",)), (NoText, read_point, ("1",)), (NoText, read_curve, ([SEAT],)), (NoText, read_path, ("",)),
    (NoJoin, read_path, ("1,2 | 3,4",)),
    (NoText, Desk().say, (["names"],)), (NoName, Desk().say, ("tell a",)),
)


class Refusals(unittest.TestCase):
    def test_base_is_straight_under_value_error(self):
        self.assertEqual(SeatError.__bases__, (ValueError,))

    def test_each_is_straight_under_the_base(self):
        for refusal in REFUSALS:
            with self.subTest(refusal.__name__):
                self.assertEqual(refusal.__bases__, (SeatError,))
                self.assertTrue(issubclass(refusal, ValueError))

    def test_none_is_under_another_one(self):
        for one in REFUSALS:
            for other in REFUSALS:
                self.assertEqual(issubclass(one, other), one is other)

    def test_each_bears_its_own_name(self):
        names = ["NoShare", "NoLower", "NoMap", "NoJoin", "NoPlace", "TooMany", "NoText", "NoName"]
        self.assertEqual([refusal.__name__ for refusal in REFUSALS], names)
        self.assertEqual(len(set(REFUSALS)), 8)
        for name, refusal in zip(names, REFUSALS):
            self.assertIs(vars(errors)[name], refusal)

    def test_each_is_taken_by_itself_the_base_and_value_error_alone(self):
        for refusal in REFUSALS:
            for taker in REFUSALS + (SeatError, ValueError):
                with self.subTest(refusal=refusal.__name__, taker=taker.__name__):
                    fits = taker in (refusal, SeatError, ValueError)
                    self.assertEqual(takes(taker, lambda: fail_with(refusal)), fits)

    def test_what_a_call_refuses_is_taken_by_the_same_three(self):
        for refusal, call, handed in DEEDS:
            for taker in REFUSALS + (SeatError, ValueError):
                with self.subTest(call=call.__name__, taker=taker.__name__):
                    fits = taker in (refusal, SeatError, ValueError)
                    self.assertEqual(takes(taker, lambda: call(*handed)), fits)

    def test_what_is_refused_changes_nothing_handed_in(self):
        for refusal, call, handed in DEEDS:
            with self.subTest(call.__name__):
                before = deepcopy(handed)
                self.assertTrue(takes(refusal, lambda: call(*handed)))
                self.assertEqual(handed, before)


def fail_with(refusal):
    raise refusal("why")


def takes(taker, deed):
    """Whether an except row of this class takes what the deed raises."""
    try:
        deed()
    except taker:
        return True
    except Exception:
        return False
    raise AssertionError("nothing was refused")


if __name__ == "__main__":
    unittest.main()
