import unittest

from addedink.desks import Desk
from addedink.errors import InkError, InvalidCheck, InvalidLimit
from addedink.styles import Style

from tests.samples import BARS, FEW, LAMPS, Strange, copied, lists_of

LAMP_STYLE = Style(LAMPS)
BAR_STYLE = Style(BARS)
HUGE = 10 ** 59 - 1

CHECKS = [
    ("rest", 2, [1]), ("rest", 9, [1, 2, 3]), ("rest", 10 ** 6, [-HUGE, 0, HUGE]), ("rest", 7, [0] * 12),
    ("copy", BAR_STYLE), ("copy", LAMP_STYLE), ("count",),
]
NO_CHECKS = [
    ("other",), ("",), ("Rest", 9, 1), ("rests",), ("rest ",), ("res",), ("Count",), ("counts",),
    ("copies",), ("other", 1), ("other", 9, 1), ("total", 1, 2, 3), ("coun", 1),
    ("rest",), ("rest", 9), ("rest", 1), ("rest", 9, [1], 1), ("rest", 9, [1, 2], 3, 4), ("rest", 9, [], 1),
    ("rest", 1, [1]), ("rest", 0, [1]), ("rest", -1, [1]), ("rest", -9, [1, 2]), ("rest", -HUGE, [1]),
    ("rest", 9, []), ("rest", 1, []), ("rest", -HUGE, []), ("rest", 1, [1], 1),
    ("copy",), ("copy", BAR_STYLE, 1), ("copy", BAR_STYLE, 1, 2),
    ("count", 1), ("count", 0), ("count", 1, 2),
]


def limits(desk):
    return (desk.free, desk.most, desk.raised)


class DeskCase(unittest.TestCase):
    def assert_fails(self, error, value, call, *rest, **more):
        with self.assertRaises(InkError) as context:
            call(*rest, **more)
        self.assertIs(type(context.exception), error)
        self.assertEqual(context.exception.value, value)
        self.assertIs(type(context.exception.value), type(value))
        return context.exception.value


class DeskTest(DeskCase):
    def test_what_a_desk_has(self):
        desk = Desk(LAMP_STYLE, CHECKS[:6], free=3, most=4, raised=True)
        self.assertEqual(desk.style, LAMP_STYLE)
        self.assertIsInstance(desk.style, Style)
        self.assertEqual(desk.checks, CHECKS[:6])
        self.assertIsInstance(desk.checks, list)
        self.assertTrue(all(isinstance(check, tuple) for check in desk.checks))
        self.assertEqual(limits(desk), (3, 4, True))

    def test_defaults(self):
        desk = Desk(LAMP_STYLE, [])
        self.assertEqual(desk.checks, [])
        self.assertEqual(desk.free, 0)
        self.assertIs(type(desk.free), int)
        self.assertIsNone(desk.most)
        self.assertIs(desk.raised, False)

    def test_by_name(self):
        desk = Desk(raised=True, most=1, free=None, checks=[("count",)], style=BAR_STYLE)
        self.assertEqual(desk.style, BAR_STYLE)
        self.assertEqual(desk.checks, [("count",)])
        self.assertEqual(limits(desk), (None, 1, True))

    def test_limits_by_name_only(self):
        with self.assertRaises(TypeError):
            Desk(LAMP_STYLE, [], 0)
        with self.assertRaises(TypeError):
            Desk(LAMP_STYLE, []).with_limits(0, None, False)

    def test_each_check(self):
        for check in CHECKS:
            self.assertEqual(Desk(LAMP_STYLE, [check]).checks, [check])
        self.assertEqual(Desk(LAMP_STYLE, [("count",), ("count",)]).checks, [("count",), ("count",)])

    def test_limits(self):
        for free in [0, 1, 3, HUGE, None]:
            for most in [1, 2, 4, HUGE, None]:
                for raised in [True, False]:
                    desk = Desk(LAMP_STYLE, [], free=free, most=most, raised=raised)
                    self.assertEqual(limits(desk), (free, most, raised))

    def test_period(self):
        self.assertEqual(Desk(LAMP_STYLE, []).period, 1)
        self.assertEqual(Desk(LAMP_STYLE, [("count",), ("copy", BAR_STYLE)]).period, 1)
        for counts, period in [([1], 1), ([3], 3), ([2, 3], 6), ([4, 6], 12), ([2, 2], 2), ([12, 9, 8], 72),
                               ([12, 11, 10, 9, 8, 7], 27720)]:
            checks = [("rest", 2, [1] * count) for count in counts]
            self.assertEqual(Desk(LAMP_STYLE, checks).period, period)
            self.assertEqual(Desk(LAMP_STYLE, [("count",)] + checks[::-1]).period, period)

    def test_period_in_the_document(self):
        wide = Desk(LAMP_STYLE, [], free=1, most=1)
        self.assertEqual(wide.with_checks([("copy", LAMP_STYLE)]).period, 1)


class NoCheckTest(DeskCase):
    def test_each_way_to_be_no_check(self):
        for check in NO_CHECKS:
            self.assert_fails(InvalidCheck, check, Desk, LAMP_STYLE, [check])
            self.assert_fails(InvalidCheck, check, Desk, LAMP_STYLE, CHECKS[:3] + [check, ("count",)])
            self.assert_fails(InvalidCheck, check, Desk(LAMP_STYLE, CHECKS[:3]).with_checks, [check])

    def test_the_first_one_in_order(self):
        for first in NO_CHECKS:
            for second in NO_CHECKS:
                self.assert_fails(InvalidCheck, first, Desk, LAMP_STYLE, [("count",), first, second])
                self.assert_fails(InvalidCheck, first, Desk(LAMP_STYLE, []).with_checks, [first, second])

    def test_checks_come_before_limits(self):
        self.assert_fails(InvalidCheck, ("count", 1), Desk, LAMP_STYLE, [("count", 1)], free=-1, most=0)

    def test_the_stored_tuple_has_lists_of_its_own(self):
        for call in [lambda told: Desk(LAMP_STYLE, told), lambda told: Desk(BAR_STYLE, []).with_checks(told)]:
            weights = [1, 2]
            told = [("count",), ("rest", 1, weights)]
            value = self.assert_fails(InvalidCheck, ("rest", 1, [1, 2]), call, told)
            self.assertIsNot(value[2], weights)
            weights.append(3)
            self.assertEqual(value, ("rest", 1, [1, 2]))
            value[2].clear()
            self.assertEqual(weights, [1, 2, 3])

    def test_a_stored_list_of_no_weights_is_new(self):
        weights = []
        value = self.assert_fails(InvalidCheck, ("rest", 9, []), Desk, LAMP_STYLE, [("rest", 9, weights)])
        self.assertIsNot(value[2], weights)

    def test_a_failed_call_changes_nothing(self):
        desk = Desk(LAMP_STYLE, CHECKS[:2], free=1)
        told = [("rest", 5, [1]), ("rest", 5, [])]
        before = copied(told)
        self.assert_fails(InvalidCheck, ("rest", 5, []), desk.with_checks, told)
        self.assertEqual(told, before)
        self.assertEqual(desk, Desk(LAMP_STYLE, CHECKS[:2], free=1))


class NoLimitTest(DeskCase):
    def test_free(self):
        for free in [-1, -2, -HUGE]:
            self.assert_fails(InvalidLimit, free, Desk, LAMP_STYLE, [], free=free)
            self.assert_fails(InvalidLimit, free, Desk(LAMP_STYLE, []).with_limits, free=free, most=None, raised=True)

    def test_most(self):
        for most in [0, -1, -HUGE]:
            self.assert_fails(InvalidLimit, most, Desk, LAMP_STYLE, [], most=most)
            self.assert_fails(InvalidLimit, most, Desk(LAMP_STYLE, []).with_limits, free=None, most=most, raised=True)

    def test_free_comes_before_most(self):
        self.assert_fails(InvalidLimit, -3, Desk, LAMP_STYLE, [], most=-5, free=-3)
        self.assert_fails(InvalidLimit, -3, Desk(LAMP_STYLE, []).with_limits, most=-5, free=-3, raised=False)


class OtherDesksTest(DeskCase):
    def test_with_checks(self):
        desk = Desk(LAMP_STYLE, CHECKS[:2], free=1, most=2, raised=True)
        more = desk.with_checks(CHECKS[4:])
        self.assertIsInstance(more, Desk)
        self.assertEqual(more.checks, CHECKS[:2] + CHECKS[4:])
        self.assertEqual(more.style, LAMP_STYLE)
        self.assertEqual(limits(more), (1, 2, True))
        self.assertEqual(desk.checks, CHECKS[:2])
        self.assertEqual(desk.with_checks([]), desk)
        self.assertEqual(desk.with_checks(checks=[("count",)]).checks, CHECKS[:2] + [("count",)])

    def test_with_style(self):
        desk = Desk(LAMP_STYLE, CHECKS[:5], free=None, most=2, raised=True)
        other = desk.with_style(BAR_STYLE)
        self.assertIsInstance(other, Desk)
        self.assertEqual(other.style, BAR_STYLE)
        self.assertEqual(other.checks, CHECKS[:5])
        self.assertEqual(limits(other), (None, 2, True))
        self.assertEqual(desk.style, LAMP_STYLE)
        self.assertEqual(desk.with_style(style=LAMP_STYLE), desk)

    def test_with_limits(self):
        desk = Desk(LAMP_STYLE, CHECKS[:5], free=2, most=2, raised=True)
        other = desk.with_limits(raised=False, most=None, free=None)
        self.assertIsInstance(other, Desk)
        self.assertEqual(limits(other), (None, None, False))
        self.assertEqual((other.style, other.checks), (LAMP_STYLE, CHECKS[:5]))
        self.assertEqual(limits(desk), (2, 2, True))
        self.assertEqual(other.with_limits(free=2, most=2, raised=True), desk)

    def test_with_limits_has_no_defaults(self):
        desk = Desk(LAMP_STYLE, [])
        for left_out in ["free", "most", "raised"]:
            told = {"free": 0, "most": None, "raised": False}
            del told[left_out]
            with self.assertRaises(TypeError):
                desk.with_limits(**told)


class FreshListsTest(DeskCase):
    def test_passed_lists_are_not_kept(self):
        weights = [1, 2]
        told = [("rest", 9, weights), ("count",)]
        more = [("rest", 7, weights)]
        desk = Desk(LAMP_STYLE, told)
        longer = desk.with_checks(more)
        weights.append(3)
        told.pop()
        more.clear()
        self.assertEqual(desk.checks, [("rest", 9, [1, 2]), ("count",)])
        self.assertEqual(longer.checks, [("rest", 9, [1, 2]), ("count",), ("rest", 7, [1, 2])])
        self.assertEqual((desk.period, longer.period), (2, 2))

    def test_passed_lists_are_not_modified(self):
        told = copied(CHECKS)
        more = copied(CHECKS)
        Desk(LAMP_STYLE, told).with_checks(more)
        self.assertEqual((told, more), (CHECKS, CHECKS))

    def test_no_list_stands_in_two_places(self):
        weights = [1, 2]
        desk = Desk(LAMP_STYLE, [("rest", 9, weights), ("rest", 9, weights)])
        longer = desk.with_checks([("rest", 7, weights)])
        found = lists_of(desk.checks) + lists_of(desk.checks) + lists_of(longer.checks) + [weights]
        self.assertEqual(len({id(part) for part in found}), len(found))

    def test_changes_of_returned_lists_change_nothing(self):
        desk = Desk(LAMP_STYLE, [("rest", 9, [1, 2]), ("count",)])
        others = [desk.with_checks([]), desk.with_style(BAR_STYLE), desk.with_limits(free=0, most=1, raised=False)]
        for one in [desk] + others:
            found = one.checks
            found[0][2].append(3)
            found.pop()
        for one in [desk] + others:
            self.assertEqual(one.checks, [("rest", 9, [1, 2]), ("count",)])
            self.assertEqual(one.period, 2)


class EqualDesksTest(unittest.TestCase):
    def make(self):
        checks = [("rest", 9, [1, 2]), ("copy", Style(BARS)), ("count",)]
        return Desk(Style(LAMPS), checks, free=1, most=2, raised=True)

    def test_equal(self):
        self.assertIs(self.make() == self.make(), True)
        self.assertIs(self.make() != self.make(), False)

    def test_unequal(self):
        desk = self.make()
        rest, other, count = desk.checks
        others = [desk.with_style(Style(FEW)), desk.with_checks([("count",)])]
        for free, most, raised in [(0, 2, True), (None, 2, True), (1, 1, True), (1, None, True), (1, 2, False)]:
            others.append(desk.with_limits(free=free, most=most, raised=raised))
        for checks in [
            [], [rest, other], [other, rest, count], [("rest", 9, [2, 1]), other, count],
            [("rest", 8, [1, 2]), other, count], [("rest", 9, [1, 2, 1]), other, count],
            [rest, ("copy", Style(FEW)), count], [rest, count, count],
        ]:
            others.append(Desk(desk.style, checks, free=1, most=2, raised=True))
        for different in others:
            self.assertIs(desk == different, False)
            self.assertIs(different == desk, False)
            self.assertIs(desk != different, True)

    def test_things_that_are_no_desk(self):
        desk = self.make()
        for other in [None, True, 0, "desk", desk.checks, [desk], (desk,), {}, desk.style, Desk, Strange()]:
            self.assertIs(desk == other, False)
            self.assertIs(other == desk, False)
            self.assertIs(desk != other, True)
            self.assertIs(other != desk, True)


if __name__ == "__main__":
    unittest.main()
