"""The texts of styles and desks."""

import unittest

from addedink.desks import Desk
from addedink.styles import Style
from addedink.texts import show_desk, show_style

from tests import reference
from tests.samples import BARS, FEW, LAMPS, copied

MIXED = Style([[10], [11, 2], [12], [13], [14], [15], [16], [17], [18], [19]])
MIXED_TEXT = "10; 2 11; 12; 13; 14; 15; 16; 17; 18; 19"
LAMP_TEXT = (
    "1 2 3 5 6 7; 3 6; 1 3 4 5 7; 1 3 4 6 7; 2 3 4 6; 1 2 4 6 7; 1 2 4 5 6 7; 1 3 6; 1 2 3 4 5 6 7; 1 2 3 4 6 7"
)
FEW_TEXT = "11; 1; 12; 13; 14; 15; 16; 1 2; 17; 18"
HUGE = 10 ** 59 + 7


class StyleTextTest(unittest.TestCase):
    def test_example(self):
        self.assertEqual(show_style(MIXED), MIXED_TEXT)

    def test_styles(self):
        self.assertEqual(show_style(style=Style(LAMPS)), LAMP_TEXT)
        self.assertEqual(show_style(Style(FEW)), FEW_TEXT)
        self.assertEqual(show_style(Style(BARS)), "10; 11; 12; 13; 14; 15; 16; 17; 18; 19")

    def test_strokes_ascend_as_numbers_and_stand_once(self):
        style = Style([[9, 10, 99, 1], [7, 7], [30, 4]] + BARS[3:])
        self.assertEqual(show_style(style), "1 9 10 99; 7; 4 30; 13; 14; 15; 16; 17; 18; 19")

    def test_redrawn(self):
        self.assertEqual(show_style(MIXED.redrawn(9, [5, 3])), MIXED_TEXT[:-2] + "3 5")
        self.assertEqual(show_style(MIXED), MIXED_TEXT)


class DeskTextTest(unittest.TestCase):
    def assert_text(self, desk, text):
        self.assertEqual(show_desk(desk), text)
        self.assertEqual(show_desk(desk=desk), text)

    def test_example(self):
        desk = Desk(MIXED, [("rest", 7, [1, -3]), ("count",)], most=2)
        self.assert_text(desk, f"({MIXED_TEXT}) rest 7: 1 -3; count free 0 most 2")

    def test_no_check(self):
        self.assert_text(Desk(MIXED, []), f"({MIXED_TEXT}) free 0 most any")

    def test_each_kind(self):
        for check, text in [
            (("rest", 2, [0]), "rest 2: 0;"), (("rest", 9, [1]), "rest 9: 1;"), (("count",), "count"),
            (("rest", 10 ** 6, [-1, 0, 12, -34]), "rest 1000000: -1 0 12 -34;"),
            (("rest", HUGE, [HUGE, -HUGE]), f"rest {HUGE}: {HUGE} -{HUGE};"),
            (("copy", Style(FEW)), f"copy ({FEW_TEXT})"), (("copy", MIXED), f"copy ({MIXED_TEXT})"),
        ]:
            self.assert_text(Desk(MIXED, [check]), f"({MIXED_TEXT}) {text} free 0 most any")
            self.assert_text(Desk(Style(FEW), [check] * 2), f"({FEW_TEXT}) {text} {text} free 0 most any")

    def test_several_checks_in_order(self):
        checks = [("count",), ("rest", 3, [2, 1]), ("copy", Style(FEW)), ("rest", 2, [-1]), ("count",)]
        text = f"({MIXED_TEXT}) count rest 3: 2 1; copy ({FEW_TEXT}) rest 2: -1; count free 0 most any"
        self.assert_text(Desk(MIXED, checks), text)
        self.assert_text(Desk(MIXED, checks[:2]).with_checks(checks[2:]), text)

    def test_limits(self):
        for free, free_text in [(0, "0"), (1, "1"), (3, "3"), (None, "any"), (HUGE, str(HUGE))]:
            for most, most_text in [(1, "1"), (4, "4"), (None, "any"), (HUGE, str(HUGE))]:
                limits = f"free {free_text} most {most_text}"
                desk = Desk(MIXED, [], free=free, most=most)
                self.assert_text(desk, f"({MIXED_TEXT}) {limits}")
                desk = desk.with_checks([("count",)]).with_limits(free=free, most=most, raised=True)
                self.assert_text(desk, f"({MIXED_TEXT}) count {limits} raised")

    def test_with_style(self):
        desk = Desk(MIXED, [("copy", MIXED)], raised=True).with_style(Style(FEW))
        self.assert_text(desk, f"({FEW_TEXT}) copy ({MIXED_TEXT}) free 0 most any raised")

    def test_nothing_changes(self):
        checks = [("rest", 7, [1, -3]), ("copy", Style(FEW)), ("count",)]
        desk = Desk(MIXED, checks, free=None)
        before = copied(checks)
        show_desk(desk)
        self.assertEqual(checks, before)
        self.assertEqual(desk, Desk(Style(MIXED.shapes), before, free=None))

    def test_equal_texts_mean_equal_desks(self):
        desks = reference.random_desks(71, 60)
        for desk in desks:
            for other in desks:
                self.assertIs(show_desk(desk) == show_desk(other), desk == other)


if __name__ == "__main__":
    unittest.main()
