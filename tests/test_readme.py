import doctest
import unittest
from pathlib import Path

from curveseat import desk, errors

ROOT = Path(__file__).resolve().parent.parent
README = ROOT / "README.md"


class Readme(unittest.TestCase):
    def test_its_examples_answer_as_written(self):
        result = doctest.testfile(str(README), module_relative=False, encoding="utf-8")
        self.assertGreater(result.attempted, 0)
        self.assertEqual(result.failed, 0)

    def test_it_says_how_to_use_every_call(self):
        text = README.read_text(encoding="utf-8")
        calls = (
            "share(top, bottom)", "plus(one, other)", "minus(one, other)", "times(one, other)", "over(one, other)",
            "under(one, other)", "between(one, other, t)",
            "on_way(one, other, t)", "step(one, other)", "cross(one, other)", "dot(one, other)",
            "rows(curve, t)", "point(curve, t)", "weights(n, t)", "polar(curve, shares)",
            "powers(curve)", "of_powers(some)", "cut(curve, t)", "stretch(curve, s, t)", "turned(curve)",
            "raised(curve)", "lowered(curve)", "least(curve)", "same(one, other)", "speed(curve)",
            "map_point(by, place)", "mapped(curve, by)", "then(one, other)", "back(by)",
            "hull(points)", "in_hull(corners, place)", "box(points)",
            "parting(one, other)", "stretches(curve, level)", "meets(one, other, level)", "near(one, other, nearness)",
            "smoothness(one, other, most)", "onward(curve, seats, k)", "through(points)",
            "Path(curves)", "curves()", "point(t)", "cut(t)", "turned()",
            "show_share(one)", "show_point(one)", "show_curve(curve)", "show_path(path)",
            "read_share(text)", "read_point(text)", "read_curve(text)", "read_path(text)", "Desk()", "say(row)",
        )
        refusals = [name for name in vars(errors) if name[0].isupper()]
        self.assertEqual(len(refusals), 9)
        for word in list(calls) + refusals:
            with self.subTest(word):
                self.assertIn(f"`{word}`", text)

    def test_it_tells_every_row_of_the_desk(self):
        text = README.read_text(encoding="utf-8")
        for word in desk.DEEDS:
            with self.subTest(word):
                self.assertRegex(text, f"`{word}( [A-Z. ]+)?`")

    def test_it_says_how_to_run_the_tests(self):
        text = README.read_text(encoding="utf-8")
        self.assertIn(".ci/run", text)
        self.assertTrue((ROOT / ".ci" / "run").is_file())
        self.assertIn("python3 -m unittest discover -s tests -t .", text)


if __name__ == "__main__":
    unittest.main()
