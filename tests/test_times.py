"""How long the slowest calls take at desks at the limits of the document."""

import time
import unittest

from addedink.amounts import check_figures, is_good, is_possible, is_unseen, price
from addedink.desks import Desk
from addedink.fields import Field
from addedink.lots import is_sure, least_checks, least_redraws
from addedink.pages import altered_page, is_page_sure, judge_page
from addedink.styles import Style
from addedink.unseen import (
    cheapest, closed, first_unseen, judge_closed, least_price, likeliest, sources, unseen_alterations,
)

from tests import reference
from tests.samples import BARS, FEW, LAMPS, STAIRS

# Seconds; on the machine on which this was written, the slowest call takes less than one.
LONGEST = 20

SUMS = [
    [("rest", 9, [1, 2, 4])], [("rest", 9, [0, 1, 3])], [("rest", 3, [1, 1, 0]), ("rest", 3, [0, 1, 2])],
    [("rest", 2, [1, 0, 0]), ("rest", 2, [0, 1, 0]), ("rest", 2, [0, 0, 1])], [("rest", 9, [0, 0, 1])],
]


def desks_at_the_limits():
    for shapes in [STAIRS, reference.SLIDE, reference.UP_ONE]:
        style = Style(shapes)
        for sums in SUMS[:3]:
            for more in [[("count",)], [("copy", style)]]:
                for free, most in [(3, 4), (None, None), (0, 4)]:
                    for raised in [True, False]:
                        yield Desk(style, sums + more, free=free, most=most, raised=raised)


class TimeTest(unittest.TestCase):
    def timed(self, call, *passed):
        before = time.perf_counter()
        told = call(*passed)
        self.assertLess(time.perf_counter() - before, LONGEST, call)
        return told

    def test_searches(self):
        sure = 0
        for desk in desks_at_the_limits():
            found = self.timed(first_unseen, desk)
            least = self.timed(least_price, desk)
            way = self.timed(cheapest, desk)
            traces = self.timed(closed, desk)
            self.assertIs(self.timed(is_sure, desk), found is None)
            self.assertIs(traces is None, found is not None)
            if traces is None:
                self.assertTrue(reference.unseen(desk, *found))
                self.assertEqual(self.timed(price, desk, *way), least)
            else:
                sure += 1
                self.assertIs(self.timed(judge_closed, desk, traces * 2), True)
                self.assertIs(self.timed(judge_closed, desk, traces[:-1]), False)
        self.assertGreater(sure, 10)

    def test_pages(self):
        pages = 0
        for desk in desks_at_the_limits():
            told = self.timed(altered_page, desk)
            self.assertIs(self.timed(is_page_sure, desk), told is None)
            if told is not None:
                pages += 1
                stays = [(seen, seen, 10 ** 59) for _, seen, _ in told]
                self.assertIs(self.timed(judge_page, desk, told + stays * 49), True)
                self.assertIs(self.timed(judge_page, desk, told[:1] + stays * 49), False)
        self.assertGreater(pages, 5)

    def test_pages_of_long_amounts(self):
        slide = Style(reference.SLIDE)
        desk = Desk(slide, [("rest", 9, [1, 2, 4]), ("copy", slide)], free=3)
        long = [9] * 27 + [0] * 3
        less = [9] * 9 + [0] * 21
        stays = [(long, long, 10 ** 59), (less, less, 1)] * 49
        page = [([9], [9, 0], 1), ([9, 9], [9, 0], 9)]
        self.assertIs(self.timed(judge_page, desk, stays + page), True)
        self.assertIs(self.timed(judge_page, desk, stays + page[:1]), False)
        self.assertIs(self.timed(judge_page, desk, [(long, less, 10 ** 59)] * 100), False)

    def test_fields(self):
        worked = 0
        for style in [Style(STAIRS), Style(reference.SLIDE), Style(LAMPS)]:
            for sums in [[]] + SUMS:
                for more in [[], [("copy", style)], [("count",)]]:
                    for free, most in [(0, 4), (3, 4), (None, None), (1, None)]:
                        desk = Desk(style, sums + more, free=free, most=most)
                        good = [row for row in reference.amounts(4 if free == 0 else 1) if is_good(desk, row)]
                        for amount in [good[0], good[-1]] if good else []:
                            worked += 1
                            self.work(self.timed(Field, desk, amount))
        self.assertGreater(worked, 200)

    def work(self, field):
        """Ask a field of two cells or more, add many strokes, and take them back."""
        self.timed(field.left)
        rows = [(cell, stroke) for cell in range(2) for stroke in range(50, 100)]
        self.timed(field.write, rows)
        self.assertEqual(len(self.timed(field.strokes, 1)[-50:]), 50)
        self.timed(field.left)
        self.timed(lambda: (field.seen, field.shows_unseen, len(field), field == field))
        for _ in rows:
            self.timed(field.undo)

    def test_all_alterations_and_sources(self):
        stairs = Style(STAIRS)
        for checks in [[], [("copy", stairs)] * 3 + [("rest", 9, [1, 2, 4])]]:
            for most in [4, None]:
                desk = Desk(stairs, checks, free=3, most=most)
                narrow = Desk(stairs, checks, most=most)
                many = len(self.timed(unseen_alterations, desk, [9]))
                self.assertGreater(many, 100)
                self.assertGreater(len(self.timed(unseen_alterations, narrow, [1, 0, 0, 8])), 100)
                self.assertGreater(len(self.timed(sources, desk, [9, 9, 9, 9])), 1000)
                self.assertGreater(len(self.timed(likeliest, desk, [9, 9, 9, 9])), 1)
        self.assertEqual(len(unseen_alterations(Desk(stairs, [], free=3), [1])), 8 + 9 * 9 + 90 * 9 + 900 * 9)

    def test_lots(self):
        slide = Style(reference.SLIDE)
        for most, raised in [(4, True), (None, True), (4, False)]:
            for free in [0, 3, None]:
                desk = Desk(slide, [], free=free, most=most, raised=raised)
                for sums in SUMS:
                    offered = sums + [("count",), ("copy", slide), ("copy", Style(LAMPS)), ("copy", slide)]
                    self.timed(least_checks, desk, offered[:4])
                    told = Desk(slide, sums, free=free, most=most, raised=raised)
                    redraws = [(0, [11]), (1, [11, 12]), (2, [10, 11, 12]), (9, [1, 12])]
                    self.timed(least_redraws, told.with_checks([("count",)]), redraws)

    def test_redraws_that_are_all_needed(self):
        # Each of four figures can become another one, until it is redrawn.
        shapes = [[1], [1, 5], [2], [2, 5], [3], [3, 5], [4], [4, 5], [6], [7]]
        desk = Desk(Style(shapes), [("rest", 9, [3, 0, 3]), ("count",)], free=3, most=4)
        offered = [(1, [8]), (3, [9]), (5, [10]), (7, [11])]
        self.assertEqual(self.timed(least_redraws, desk, offered), [[0, 1, 2, 3]])

    def test_amounts(self):
        weights = [(-1) ** at * (10 ** 59 + at) for at in range(12)]
        checks = [("rest", 10 ** 6, weights)] * 4 + [("copy", Style(STAIRS)), ("copy", Style(BARS))]
        desk = Desk(Style(FEW), checks, free=3, most=4)
        for _ in range(20):
            self.timed(is_good, desk, [7] * 30)
            self.timed(is_possible, desk, [1] * 30, [7] * 30)
            self.timed(is_unseen, desk, [1] * 30, [7] * 30)
            self.timed(price, desk, [1] * 30, [7] * 30)
            self.timed(check_figures, desk, [7] * 30)


if __name__ == "__main__":
    unittest.main()
