"""The first unseen alteration of a desk, and the cheapest one."""

import random
import unittest

from addedink.amounts import is_unseen, price
from addedink.desks import Desk
from addedink.styles import Style
from addedink.unseen import cheapest, closed, first_unseen, least_price

from tests import reference
from tests.samples import BARS, FEW, LAMPS, STAIRS, lists_of

LAMP_STYLE = Style(LAMPS)
BAR_STYLE = Style(BARS)
FEW_STYLE = Style(FEW)
STAIR_STYLE = Style(STAIRS)
UP_ONE = Style(reference.UP_ONE)
DOWN_ONE = Style(reference.DOWN_ONE)
SLIDE = Style(reference.SLIDE)
NINE = Desk(LAMP_STYLE, [("rest", 9, [1])])
REST_NINE = ("rest", 9, [1])


class ExampleTest(unittest.TestCase):
    def test_first(self):
        self.assertEqual(first_unseen(Desk(LAMP_STYLE, [])), ([1], [3]))
        self.assertEqual(first_unseen(NINE), ([4, 5], [9, 9]))
        single = NINE.with_limits(free=0, most=1, raised=False)
        self.assertIsNone(first_unseen(single))
        self.assertEqual(first_unseen(single.with_limits(free=1, most=1, raised=False)), ([9], [9, 9]))

    def test_price(self):
        self.assertEqual(least_price(NINE), 2)

    def test_by_name_and_kinds(self):
        for call in [first_unseen, cheapest]:
            told = call(desk=NINE)
            self.assertIsInstance(told, tuple)
            self.assertEqual([type(entry) for entry in told], [list, list])
        self.assertEqual(least_price(desk=NINE), 2)


class FirstTest(unittest.TestCase):
    def check(self, style, checks, expected, **limits):
        self.assertEqual(first_unseen(Desk(style, checks, **limits)), expected)

    def test_nothing_can_be_altered(self):
        for checks in [[], [REST_NINE], [("count",)], [("copy", LAMP_STYLE)]]:
            self.check(BAR_STYLE, checks, None)
            self.check(BAR_STYLE, checks + [("count",)], None, free=3)
            self.check(BAR_STYLE, checks + [("count",)], None, free=None)

    def test_without_checks(self):
        self.check(FEW_STYLE, [], ([1], [7]))
        self.check(STAIR_STYLE, [], ([1], [2]))
        self.check(SLIDE, [], ([2], [1]))
        self.check(UP_ONE, [], ([1, 0], [1, 1]))
        self.check(DOWN_ONE, [], ([9], [8]))
        self.check(DOWN_ONE, [], None, raised=True)
        self.check(SLIDE, [], None, raised=True)

    def test_in_blank_cells(self):
        self.check(BAR_STYLE, [], ([1], [1, 1]), free=1)
        self.check(BAR_STYLE, [], ([1], [1, 1]), free=None)
        self.check(BAR_STYLE, [], ([1], [1, 1]), free=1, raised=True)
        self.check(BAR_STYLE, [REST_NINE], ([9], [9, 9]), free=1)
        self.check(BAR_STYLE, [("rest", 9, [1, 0])], ([9], [1, 9]), free=1)
        self.check(BAR_STYLE, [("rest", 9, [1, 0, 0])], ([9], [1, 9]), free=1)
        self.check(BAR_STYLE, [("copy", LAMP_STYLE)], ([1], [1, 1]), free=1)

    def test_weights_of_zero(self):
        # Cell 0 weighs nothing, so that any figure can stand in it; 9 and 1 ahead make 10.
        self.check(BAR_STYLE, [("rest", 10, [0, 1, 1])], ([1, 9, 0], [1, 1, 9, 0]), free=1)
        self.check(BAR_STYLE, [("rest", 10, [0, 1, 1])], ([1], [1, 9, 1]), free=2)
        self.check(BAR_STYLE, [("rest", 10, [0, 1, 1])], ([1], [1, 9, 1]), free=None)
        self.check(FEW_STYLE, [("rest", 9, [1, 0])], ([1, 0], [7, 0]))
        self.check(FEW_STYLE, [("rest", 9, [0, 1])], ([1], [7]))

    def test_more_blank_cells_than_three(self):
        nines = [1] + [9] * 11
        self.check(BAR_STYLE, [("rest", 100, [1])], (nines, nines + nines), free=None)
        self.check(BAR_STYLE, [("rest", 100, [1]), ("count",)], None, free=None)
        self.check(BAR_STYLE, [("rest", 11, [1])], ([2, 9], [2, 9, 2, 9]), free=None)
        self.check(BAR_STYLE, [("rest", 11, [1])], ([2, 9], [2, 9, 2, 9]), free=2)
        self.check(BAR_STYLE, [("rest", 11, [1])], None, free=1)

    def test_long_amounts(self):
        # Nine zeros become ones, so that the sum stays divisible.
        zeros, ones = [9] + [0] * 9, [9] + [1] * 9
        self.check(UP_ONE, [REST_NINE], (zeros, ones))
        self.check(UP_ONE, [REST_NINE], (zeros, ones), raised=True)
        self.check(UP_ONE, [REST_NINE, ("count",)], (zeros, ones), free=None)
        self.check(UP_ONE, [REST_NINE], None, most=4)
        self.check(DOWN_ONE, [REST_NINE], ([9] * 9, [8] * 9))
        self.check(DOWN_ONE, [REST_NINE], None, raised=True)
        self.check(UP_ONE, [("rest", 9, [1, 2, 4])], ([1, 0, 0, 0, 0, 5], [1, 1, 1, 1, 1, 5]))

    def test_both_entries_of_the_first_place_come_before_all_others(self):
        # The first amount is taken, though a later one is altered to something less.
        self.check(LAMP_STYLE, [], ([1], [3]), most=1)
        self.check(LAMP_STYLE, [("copy", FEW_STYLE)], ([1], [7]))
        self.check(LAMP_STYLE, [("rest", 10, [1, 0])], ([1, 0], [3, 0]))
        self.check(LAMP_STYLE, [("rest", 2, [1])], ([2], [8]))

    def test_limits(self):
        self.check(LAMP_STYLE, [REST_NINE], ([4, 5], [9, 9]), most=2)
        self.check(LAMP_STYLE, [REST_NINE], ([9], [9, 9]), most=1, free=3)
        self.check(LAMP_STYLE, [REST_NINE], ([9], [1, 8]), raised=True, free=1)
        self.check(LAMP_STYLE, [REST_NINE], ([9], [1, 8]), most=2, free=2)
        self.check(LAMP_STYLE, [("rest", 7, [1])], ([1, 6], [8, 6]), most=2)


class AllShortTest(unittest.TestCase):
    def test_against_all_short_amounts(self):
        seen = {True: 0, False: 0}
        for desk in reference.random_desks(1, 100, frees=(0, 0, 1, 2)):
            found = first_unseen(desk)
            expected = reference.first_short(desk, 2, desk.free)
            seen[expected is None] += 1
            if expected is None:
                self.assertTrue(found is None or len(found[0]) > 2, found)
            else:
                self.assertEqual(found, expected)
        self.assertGreater(min(seen.values()), 10)

    def test_against_all_amounts_of_three_figures(self):
        for desk in [
            Desk(LAMP_STYLE, [("rest", 9, [1, 2, 4])], most=2),
            Desk(LAMP_STYLE, [("rest", 9, [1, 2, 4]), ("copy", FEW_STYLE)]),
            Desk(FEW_STYLE, [("rest", 3, [1, 2, 2]), ("rest", 2, [1])]),
            Desk(FEW_STYLE, [("rest", 8, [1, 3])], most=4),
        ]:
            expected = reference.first_short(desk, 3, desk.free)
            self.assertIsNotNone(expected)
            self.assertEqual(first_unseen(desk), expected)

    def test_against_layers_of_traces(self):
        source = random.Random(3)
        lengths = set()
        for _ in range(60):
            weights = [source.choice([0, 1, 2, 3, 4, 5, 7, 8]) for _ in range(source.choice([1, 2, 3]))]
            checks = [("rest", source.choice([4, 5, 6, 7]), weights)] + source.choice([[], [("count",)]])
            desk = Desk(
                Style(source.choice([reference.UP_ONE, reference.DOWN_ONE, FEW])), checks,
                free=source.choice([0, 1, 3, None]), most=source.choice([3, None, None]),
                raised=source.choice([True, False]),
            )
            found = first_unseen(desk)
            self.assertEqual(found, reference.first_by_layers(desk, 8, 5 if desk.free is None else desk.free))
            lengths.add(None if found is None else len(found[0]))
        self.assertGreaterEqual(len(lengths), 6)


class CheapestTest(unittest.TestCase):
    def test_prices(self):
        for style, checks, limits, expected in [
            (BAR_STYLE, [], {}, None),
            (BAR_STYLE, [], {"free": 1}, 1),
            (LAMP_STYLE, [], {}, 1),
            (LAMP_STYLE, [("copy", LAMP_STYLE)], {}, 2),
            (LAMP_STYLE, [("copy", LAMP_STYLE), ("copy", STAIR_STYLE)], {}, 3),
            (LAMP_STYLE, [("copy", BAR_STYLE)], {}, None),
            (LAMP_STYLE, [("copy", BAR_STYLE)], {"free": 1}, 3),
            (LAMP_STYLE, [("copy", BAR_STYLE), ("count",)], {"free": 1}, None),
            (UP_ONE, [REST_NINE], {}, 9),
            (UP_ONE, [REST_NINE, ("copy", UP_ONE)], {}, 18),
            (UP_ONE, [REST_NINE], {"most": 4}, None),
            (LAMP_STYLE, [], {"free": 1, "most": 1, "raised": True}, 1),
            (SLIDE, [("count",)], {"raised": True, "free": 1}, None),
            (SLIDE, [], {"raised": True, "free": 1}, 1),
            (FEW_STYLE, [("rest", 9, [0, 1])], {}, 1),
            (FEW_STYLE, [("rest", 9, [1])], {}, 3),
        ]:
            with self.subTest(checks=checks, limits=limits):
                desk = Desk(style, checks, **limits)
                self.assertEqual(least_price(desk), expected)
                self.check_cheapest(desk)

    def check_cheapest(self, desk):
        least = least_price(desk)
        found = cheapest(desk)
        if least is None:
            self.assertIsNone(found)
        else:
            self.assertTrue(reference.unseen(desk, *found), found)
            self.assertEqual(reference.cost(desk, *found), least)
            self.assertIs(is_unseen(desk, *found), True)
            self.assertEqual(price(desk, *found), least)
        return least

    def test_against_prices_that_are_relaxed(self):
        seen = set()
        for desk in reference.random_desks(2, 120, product=4):
            least = self.check_cheapest(desk)
            self.assertEqual(least, reference.lowest_price(desk))
            seen.add(least)
        self.assertGreaterEqual(len(seen), 5)

    def test_no_short_alteration_is_cheaper(self):
        for desk in reference.random_desks(4, 40, frees=(0, 1)):
            least = self.check_cheapest(desk)
            for amount in reference.amounts_up_to(2):
                for altered in reference.all_unseen(desk, amount, desk.free):
                    self.assertLessEqual(least, reference.cost(desk, amount, altered))

    def test_several_cheap_cells_are_better_than_a_dear_one(self):
        # 1 becomes 4 by four strokes, and 2 by one: three such cells keep the sum divisible, too.
        shapes = [[6], [1], [1, 2], [7], [1, 2, 3, 4, 5], [8], [9], [10], [11], [12]]
        self.assertEqual(self.check_cheapest(Desk(Style(shapes), [("rest", 3, [1])])), 3)
        self.assertEqual(self.check_cheapest(Desk(Style(shapes), [("rest", 3, [1])], most=2)), 4)


class DeskTest(unittest.TestCase):
    def test_desks_that_methods_made(self):
        for desk in reference.random_desks(5, 40):
            made = Desk(BAR_STYLE, desk.checks[:1]).with_style(desk.style).with_checks(desk.checks[1:])
            made = made.with_limits(free=desk.free, most=desk.most, raised=desk.raised)
            self.assertEqual(first_unseen(made), first_unseen(desk))
            self.assertEqual(least_price(made), least_price(desk))
            self.assertEqual(cheapest(made) is None, cheapest(desk) is None)

    def test_a_redrawn_style(self):
        style = LAMP_STYLE.redrawn(1, [98]).redrawn(3, [99])
        self.assertEqual(first_unseen(Desk(style, [])), first_unseen(Desk(Style(style.shapes), [])))
        self.assertEqual(first_unseen(Desk(style, [])), ([2], [8]))
        self.assertEqual(first_unseen(Desk(LAMP_STYLE, [])), ([1], [3]))

    def test_an_alteration_needs_at_most_as_many_cells_as_there_are_traces(self):
        for desk in reference.random_desks(6, 60, product=4):
            found = first_unseen(desk)
            if found is not None:
                many = len(reference.reached(desk))
                self.assertLessEqual(min(len(found[1]), len(cheapest(desk)[1])), many)

    def test_either_an_alteration_or_a_closed_list(self):
        for desk in reference.random_desks(7, 100):
            sure = first_unseen(desk) is None
            self.assertIs(closed(desk) is not None, sure)
            self.assertIs(cheapest(desk) is None, sure)
            self.assertIs(least_price(desk) is None, sure)

    def test_lists_are_new(self):
        for call in [first_unseen, cheapest]:
            desk = Desk(BAR_STYLE, [("rest", 9, [1])], free=1)
            told = call(desk)
            found = lists_of(told) + lists_of(call(desk)) + [check[2] for check in desk.checks]
            self.assertEqual(len({id(entry) for entry in found}), len(found))
            told[0].append(5)
            told[1].clear()
            self.assertEqual(first_unseen(desk), ([9], [9, 9]))
            self.assertEqual(desk, Desk(BAR_STYLE, [("rest", 9, [1])], free=1))

    def test_what_is_returned_may_be_passed_back(self):
        desk = Desk(BAR_STYLE, [("rest", 100, [1])], free=None)
        for amount, altered in [first_unseen(desk), cheapest(desk)]:
            self.assertIs(is_unseen(desk, amount, altered), True)
            self.assertEqual(price(desk, amount, altered), 12)


if __name__ == "__main__":
    unittest.main()
