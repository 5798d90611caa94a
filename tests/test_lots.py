"""Least sets of checks and of redraws."""

import itertools
import random
import unittest

from addedink.desks import Desk
from addedink.errors import EmptyShape, InvalidCheck, InvalidFigure, InvalidStroke
from addedink.lots import is_sure, least_checks, least_redraws
from addedink.styles import Style
from addedink.unseen import first_unseen

from tests import reference
from tests.cases import ErrorCase
from tests.samples import BARS, FEW, LAMPS, NO_FIGURES, NO_STROKES, STAIRS, copied, lists_of

LAMP_STYLE = Style(LAMPS)
BAR_STYLE = Style(BARS)
FEW_STYLE = Style(FEW)
STAIR_STYLE = Style(STAIRS)
# 0 becomes 3 and nothing else.
UP_THREE = Style([[1], [20], [12], [1, 2], [14], [15], [16], [17], [18], [19]])
PLAIN = Desk(LAMP_STYLE, [], free=1, most=1)
COUNT = ("count",)
COPY_BARS = ("copy", BAR_STYLE)
REST_NINE = ("rest", 9, [1])


def sets_of(many):
    """All sets of indexes, smaller ones first."""
    return [list(chosen) for size in range(many + 1) for chosen in itertools.combinations(range(many), size)]


def least(many, is_enough):
    """The sets that are enough, without those that have a smaller one within."""
    enough = [chosen for chosen in sets_of(many) if is_enough(chosen)]
    return [chosen for chosen in enough if not any(set(less) < set(chosen) for less in enough)]


def is_safe(desk):
    """Tell by the definition of traces whether no alteration is unseen."""
    return not any(reference.shows_unseen(desk, trace) for trace in reference.reached(desk))


def with_redraws(desk, redraws):
    """The desk with all these redraws at once, None if they make no style."""
    shapes = desk.style.shapes
    figures = [figure for figure, _ in redraws]
    for figure, strokes in redraws:
        shapes[figure] = strokes
    if len(set(figures)) < len(figures) or len({tuple(sorted(set(shape))) for shape in shapes}) < 10:
        return None
    return desk.with_style(Style(shapes))


class SureTest(unittest.TestCase):
    def test_examples(self):
        self.assertIs(is_sure(PLAIN), False)
        self.assertIs(is_sure(PLAIN.with_checks([COUNT, REST_NINE])), True)
        self.assertIs(is_sure(desk=Desk(BAR_STYLE, [])), True)

    def test_against_traces(self):
        seen = {True: 0, False: 0}
        for desk in reference.random_desks(31, 150, product=5):
            sure = is_safe(desk)
            seen[sure] += 1
            self.assertIs(is_sure(desk), sure)
            self.assertIs(first_unseen(desk) is None, sure)
        self.assertGreater(min(seen.values()), 20)

    def test_a_sure_desk_stays_sure_with_more_checks(self):
        source = random.Random(32)
        checked = 0
        for desk in reference.random_desks(33, 150, product=3):
            if is_sure(desk):
                checked += 1
                more = desk.with_checks(reference.random_checks(source, 3))
                self.assertIs(is_sure(more), True)
                self.assertIsNone(first_unseen(more))
        self.assertGreater(checked, 20)


class ChecksTest(ErrorCase):
    def test_examples(self):
        self.assertEqual(least_checks(PLAIN, [COUNT, REST_NINE, COPY_BARS]), [[0, 1], [0, 2]])
        self.assertEqual(least_checks(Desk(BAR_STYLE, [], free=1), [COPY_BARS, COUNT]), [[1]])

    def test_nothing_is_needed(self):
        for offered in [[], [COUNT], [COUNT, COPY_BARS, REST_NINE, COUNT]]:
            self.assertEqual(least_checks(Desk(BAR_STYLE, []), offered), [[]])

    def test_nothing_is_enough(self):
        for offered in [[], [COUNT], [REST_NINE], [("copy", LAMP_STYLE)] * 4]:
            self.assertEqual(least_checks(PLAIN, offered), [])

    def test_equal_checks(self):
        self.assertEqual(least_checks(PLAIN, [COUNT, COPY_BARS, COUNT]), [[0, 1], [1, 2]])
        told = PLAIN.with_checks([COUNT])
        self.assertEqual(least_checks(told, [COUNT, COPY_BARS, COPY_BARS, REST_NINE]), [[1], [2], [3]])
        self.assertEqual(least_checks(told.with_checks([COPY_BARS]), [COUNT, COPY_BARS]), [[]])

    def test_the_order_of_sets(self):
        # Each rest check sees the figures in every other cell.
        even, odd = ("rest", 2, [1, 0]), ("rest", 2, [0, 1])
        desk = Desk(UP_THREE, [], most=1)
        self.assertEqual(least_checks(desk, [even, COUNT]), [])
        self.assertEqual(least_checks(desk, [even, odd, COPY_BARS, COUNT]), [[2], [0, 1]])
        self.assertEqual(least_checks(desk, [COUNT, even, COUNT, odd]), [[1, 3]])
        desk = desk.with_limits(free=1, most=1, raised=False)
        self.assertEqual(least_checks(desk, [even, COPY_BARS, odd, COUNT]), [[1, 3], [0, 2, 3]])

    def test_against_all_sets(self):
        source = random.Random(34)
        kinds = {}
        for desk in reference.random_desks(35, 60, product=2):
            offered = [source.choice([
                COUNT, COPY_BARS, ("copy", FEW_STYLE), ("rest", 2, [1]), ("rest", 3, [1, 2]), ("rest", 2, [1, 0]),
            ]) for _ in range(source.randint(0, 3))]
            if source.random() < 0.3:
                offered = offered + desk.checks[:1]
            expected = least(
                len(offered), lambda chosen: is_sure(desk.with_checks([offered[at] for at in chosen])),
            )
            self.assertEqual(least_checks(desk, offered), expected)
            kind = "none" if expected == [] else max(len(chosen) for chosen in expected)
            kinds[kind] = kinds.get(kind, 0) + 1
        self.assertGreaterEqual(len(kinds), 4)

    def test_errors(self):
        wrong = [
            ("other",), ("counts", 1), ("count", 1), ("rest",), ("rest", 9), ("rest", 1, [1]), ("rest", 9, []),
            ("rest", 9, [1], 1), ("rest", -(10 ** 59), [1, 2]), ("copy",), ("copy", BAR_STYLE, 2),
        ]
        for check in wrong:
            for offered in [[check], [COUNT, check], [check, ("none",)], [COPY_BARS, check, ("rest", 0, [1])]]:
                for desk in [PLAIN, Desk(BAR_STYLE, [])]:
                    told = self.assert_fails(InvalidCheck, check, least_checks, desk, offered)
                    passed = lists_of(check)
                    self.assertFalse(any(entry is other for entry in lists_of(told) for other in passed))

    def test_arguments_stay_and_are_not_kept(self):
        offered = [COUNT, ("rest", 9, [1]), COPY_BARS]
        before = copied(offered)
        told = least_checks(offered=offered, desk=PLAIN)
        self.assertEqual(offered, before)
        offered[1][2].append(5)
        offered.clear()
        self.assertEqual(told, [[0, 1], [0, 2]])
        self.assertEqual(PLAIN, Desk(LAMP_STYLE, [], free=1, most=1))
        again = least_checks(PLAIN, before)
        found = lists_of(told) + lists_of(again)
        self.assertEqual(len({id(entry) for entry in found}), len(found))
        for entry in lists_of(again):
            entry.clear()
        self.assertEqual(least_checks(PLAIN, before), told)


class RedrawsTest(ErrorCase):
    def test_examples(self):
        desk = Desk(FEW_STYLE, [])
        self.assertEqual(least_redraws(desk, [(7, [2, 3]), (1, [1, 4]), (1, [1, 2])]), [[0], [1]])
        self.assertEqual(least_redraws(Desk(FEW_STYLE, [], raised=True), []), [])

    def test_nothing_is_needed(self):
        for offered in [[], [(1, [1, 2])], [(1, [50]), (1, [50])], [(1, [1]), (7, [1])]]:
            self.assertEqual(least_redraws(Desk(BAR_STYLE, []), offered), [[]])

    def test_nothing_is_enough(self):
        for offered in [[], [(7, [1, 2, 3])], [(7, [1, 2])], [(2, [50]), (3, [51]), (4, [52]), (5, [53])]]:
            self.assertEqual(least_redraws(Desk(FEW_STYLE, []), offered), [])
        self.assertEqual(least_redraws(Desk(BAR_STYLE, [], free=1), [(1, [50])]), [])

    def test_a_figure_twice(self):
        # Each of both would be needed: 1 becomes 7, and 3 becomes 7.
        shapes = [[20], [1], [12], [3], [14], [15], [16], [1, 3], [18], [19]]
        desk = Desk(Style(shapes), [])
        self.assertEqual(least_redraws(desk, [(1, [1, 2]), (1, [1, 2]), (3, [3, 4])]), [[0, 2], [1, 2]])
        self.assertEqual(least_redraws(desk, [(1, [2]), (1, [4])]), [])
        self.assertEqual(least_redraws(desk, [(7, [5]), (7, [5])]), [[0], [1]])
        self.assertEqual(least_redraws(desk, [(7, [5]), (1, [1, 2]), (7, [6]), (3, [3, 4])]), [[0], [2], [1, 3]])

    def test_two_figures_with_the_same_strokes(self):
        desk = Desk(FEW_STYLE, [])
        # Alone: 7 gets the strokes of 2. Together: 1 and 7 get the same ones.
        self.assertEqual(least_redraws(desk, [(7, [12])]), [])
        self.assertEqual(least_redraws(desk, [(7, [12, 12]), (2, [50])]), [[0, 1]])
        shapes = [[20], [1], [12], [3], [14], [15], [16], [1, 3], [18], [19]]
        desk = Desk(Style(shapes), [])
        self.assertEqual(least_redraws(desk, [(1, [50, 51]), (3, [51, 50])]), [])
        self.assertEqual(least_redraws(desk, [(1, [50, 51]), (3, [51, 50, 49])]), [])
        self.assertEqual(least_redraws(desk, [(1, [50, 51]), (3, [51, 50]), (3, [52])]), [[0, 2]])

    def test_strokes_are_exchanged(self):
        # 1 becomes 7, which is raised; when they exchange their strokes, 7 becomes 1.
        desk = Desk(FEW_STYLE, [], raised=True)
        self.assertEqual(least_redraws(desk, [(1, [1, 2]), (7, [1])]), [[0, 1]])
        self.assertEqual(least_redraws(desk, [(7, [1]), (5, [50]), (1, [2, 1])]), [[0, 2]])
        desk = Desk(FEW_STYLE, [])
        self.assertEqual(least_redraws(desk, [(1, [1, 2]), (7, [1])]), [])

    def test_a_set_that_is_enough_though_a_greater_one_is_not(self):
        # With the strokes of the second redraw 1 can become 4, whether or not it is redrawn.
        desk = Desk(FEW_STYLE, [])
        self.assertEqual(least_redraws(desk, [(1, [1, 4]), (4, [1, 4, 5])]), [[0]])
        self.assertEqual(least_redraws(desk, [(4, [1, 4, 5]), (1, [1, 4]), (7, [6])]), [[1], [2]])
        self.assertEqual(least_redraws(desk, [(4, [1, 4, 5]), (7, [6])]), [[1]])

    def test_copies_keep_their_style(self):
        desk = Desk(FEW_STYLE, [("copy", FEW_STYLE)])
        self.assertEqual(least_redraws(desk, [(7, [3])]), [[0]])
        # 2 becomes 3 behind the redraw, but not in the copy; 1 becomes 7 in both.
        self.assertEqual(least_redraws(desk, [(1, [1, 4]), (3, [12, 13])]), [[0]])
        desk = Desk(BAR_STYLE, [("copy", LAMP_STYLE)])
        self.assertEqual(least_redraws(desk, [(7, [11, 12])]), [[]])
        self.assertIs(is_sure(desk.with_style(BAR_STYLE.redrawn(7, [11, 12]))), False)

    def test_against_all_sets(self):
        source = random.Random(36)
        kinds = {}
        for _ in range(200):
            shapes = copied(source.choice([FEW, FEW, BARS]))
            for figure in source.sample([3, 4, 5], source.choice([0, 1, 1, 2])):
                shapes[figure] = [11, 10 + figure]
            desk = Desk(
                Style(shapes), source.choice([[], [("rest", 2, [1])], [("copy", LAMP_STYLE)], [("rest", 3, [1, 0])]]),
                most=source.choice([1, None]), raised=source.choice([True, False]),
            )
            offered = [
                (figure, source.choices([1, 2, 3, 11, 12, 13, 14], k=source.choice([1, 1, 2, 3])))
                for figure in source.choices([0, 1, 1, 3, 4, 7], k=source.randint(0, 4))
            ]
            redrawn = lambda chosen: with_redraws(desk, [offered[at] for at in chosen])
            expected = least(
                len(offered), lambda chosen: redrawn(chosen) is not None and is_sure(redrawn(chosen)),
            )
            self.assertEqual(least_redraws(desk, offered), expected)
            kind = "none" if expected == [] else max(len(chosen) for chosen in expected)
            kinds[kind] = kinds.get(kind, 0) + 1
        self.assertGreaterEqual(len(kinds), 4)

    def test_figures_that_are_none(self):
        for figure in NO_FIGURES:
            for desk in [PLAIN, Desk(BAR_STYLE, [])]:
                self.assert_fails(InvalidFigure, figure, least_redraws, desk, [(figure, [1])])
                self.assert_fails(InvalidFigure, figure, least_redraws, desk, [(1, [1]), (figure, [0])])
                self.assert_fails(InvalidFigure, figure, least_redraws, desk, [(figure, []), (1, [])])
                self.assert_fails(InvalidFigure, figure, least_redraws, desk, [(figure, [0]), (-5, [0])])

    def test_strokes_that_are_none(self):
        for stroke in NO_STROKES:
            for desk in [PLAIN, Desk(BAR_STYLE, [])]:
                self.assert_fails(InvalidStroke, stroke, least_redraws, desk, [(1, [stroke])])
                self.assert_fails(InvalidStroke, stroke, least_redraws, desk, [(1, [5, stroke, 200])])
                self.assert_fails(InvalidStroke, stroke, least_redraws, desk, [(1, [1]), (7, [stroke]), (-1, [1])])
                self.assert_fails(InvalidStroke, stroke, least_redraws, desk, [(1, [stroke]), (2, [])])

    def test_redraws_without_strokes(self):
        for figure in range(10):
            for desk in [PLAIN, Desk(BAR_STYLE, [])]:
                self.assert_fails(EmptyShape, figure, least_redraws, desk, [(figure, [])])
                self.assert_fails(EmptyShape, figure, least_redraws, desk, [(0, [1]), (figure, []), (11, [])])
                self.assert_fails(EmptyShape, figure, least_redraws, desk, [(figure, []), (3, [0])])

    def test_double_shapes_are_no_error(self):
        self.assertEqual(least_redraws(Desk(FEW_STYLE, []), [(1, [1, 2]), (1, [1, 2]), (0, [12])]), [])

    def test_arguments_stay_and_are_not_kept(self):
        desk = Desk(FEW_STYLE, [("rest", 2, [1])])
        offered = [(7, [3, 2, 2]), (1, [4, 1]), (1, [1, 2])]
        before = copied(offered)
        told = least_redraws(offered=offered, desk=desk)
        self.assertEqual(offered, before)
        self.assertEqual(desk, Desk(FEW_STYLE, [("rest", 2, [1])]))
        self.assertEqual(FEW_STYLE, Style(FEW))
        offered[0][1].clear()
        offered.clear()
        self.assertEqual(told, [[0], [1]])
        again = least_redraws(desk, before)
        found = lists_of(told) + lists_of(again) + lists_of(before)
        self.assertEqual(len({id(entry) for entry in found}), len(found))


if __name__ == "__main__":
    unittest.main()
