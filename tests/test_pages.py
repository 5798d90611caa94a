"""Pages: rows of amounts with a fixed total."""

import random
import unittest

from addedink.desks import Desk
from addedink.errors import InvalidAmount
from addedink.lots import is_sure
from addedink.pages import altered_page, is_page_sure, judge_page
from addedink.styles import Style
from addedink.unseen import cheapest, first_unseen

from tests import reference
from tests.cases import ErrorCase
from tests.samples import BARS, FEW, LAMPS, NO_AMOUNTS, STAIRS, copied, lists_of

LAMP_STYLE = Style(LAMPS)
BAR_STYLE = Style(BARS)
FEW_STYLE = Style(FEW)
STAIR_STYLE = Style(STAIRS)
SLIDE_STYLE = Style(reference.SLIDE)
UP_STYLE = Style(reference.UP_ONE)
DOWN_STYLE = Style(reference.DOWN_ONE)
# 0 becomes 1, and 9 becomes 8.
BOTH_STYLE = Style([[1], [1, 2], [3], [4], [5], [6], [7], [8], [9, 10], [10]])
# 0 becomes 3, and 9 becomes 7.
UNEVEN_STYLE = Style([[1], [20], [3], [1, 2], [5], [6], [7], [9, 10], [11], [10]])
PLAIN = Desk(LAMP_STYLE, [])
NINE = ("rest", 9, [1])
COUNT = ("count",)
HUGE = 10 ** 59 + 7


def orders(desk):
    """The orders of the unseen traces, by the definition."""
    return {trace[4] for trace in reference.reached(desk) if reference.shows_unseen(desk, trace)}


def is_altered(desk, told):
    """The document's words on pages that are altered unseen."""
    for amount, seen, number in told:
        if number < 1 or not reference.good(desk, amount) or not reference.good(desk, seen):
            return False
        if amount != seen and not reference.unseen(desk, amount, seen):
            return False
    before = sum(reference.number(amount) * number for amount, _, number in told)
    after = sum(reference.number(seen) * number for _, seen, number in told)
    return before == after and any(amount != seen for amount, seen, _ in told)


def short_ways(desk, amounts):
    """All unseen alterations of some amounts, with at most one blank cell."""
    blanks = 1 if desk.free is None else min(desk.free, 1)
    good = [amount for amount in amounts if reference.good(desk, amount)]
    return [(amount, row) for amount in good for row in reference.all_unseen(desk, amount, blanks)]


class PageCase(ErrorCase):
    def assert_page(self, desk):
        """Check that there is a page that is altered unseen; return it."""
        self.assertIs(is_page_sure(desk), False)
        told = altered_page(desk)
        self.assertIsInstance(told, list)
        for row in told:
            self.assertIsInstance(row, tuple)
            amount, seen, number = row
            self.assertIsInstance(amount, list)
            self.assertIsInstance(seen, list)
            self.assertIs(type(number), int)
        self.assertTrue(is_altered(desk, told))
        self.assertIs(judge_page(desk, told), True)
        return told

    def assert_sure(self, desk):
        self.assertIs(is_page_sure(desk), True)
        self.assertIsNone(altered_page(desk))


class SureTest(PageCase):
    def test_examples(self):
        self.assertIs(is_page_sure(PLAIN), False)
        self.assertIs(judge_page(PLAIN, altered_page(PLAIN)), True)
        self.assertIsNone(altered_page(Desk(LAMP_STYLE, [], raised=True)))
        self.assertIs(is_page_sure(desk=Desk(LAMP_STYLE, [], raised=True)), True)

    def test_all_alterations_are_seen(self):
        for desk in [
            Desk(BAR_STYLE, []), Desk(BAR_STYLE, [COUNT], free=3), Desk(LAMP_STYLE, [NINE], most=1),
            Desk(LAMP_STYLE, [("copy", BAR_STYLE)]), Desk(BAR_STYLE, [NINE, COUNT], free=None),
            Desk(STAIR_STYLE, [("copy", SLIDE_STYLE)]), Desk(LAMP_STYLE, [("copy", BAR_STYLE), COUNT], free=None),
        ]:
            self.assertIs(is_sure(desk), True)
            self.assert_sure(desk)

    def test_all_that_is_unseen_makes_amounts_greater(self):
        for desk in [
            Desk(STAIR_STYLE, []), Desk(UP_STYLE, []), Desk(UP_STYLE, [], free=3), Desk(BAR_STYLE, [], free=1),
            Desk(BAR_STYLE, [], free=None, most=1), Desk(FEW_STYLE, []), Desk(STAIR_STYLE, [NINE]),
            Desk(LAMP_STYLE, [("copy", STAIR_STYLE)]), Desk(SLIDE_STYLE, [("copy", BAR_STYLE)], free=2),
            Desk(STAIR_STYLE, [("rest", 9, [1, 2, 4])], free=None),
        ]:
            self.assertIs(is_sure(desk), False)
            self.assert_sure(desk)

    def test_all_that_is_unseen_makes_amounts_less(self):
        for desk in [
            Desk(SLIDE_STYLE, []), Desk(DOWN_STYLE, []), Desk(DOWN_STYLE, [], most=1), Desk(SLIDE_STYLE, [NINE]),
            Desk(LAMP_STYLE, [("copy", SLIDE_STYLE)]), Desk(DOWN_STYLE, [("rest", 7, [1, 3])]),
        ]:
            self.assertIs(is_sure(desk), False)
            self.assert_sure(desk)

    def test_all_that_is_unseen_makes_amounts_less_beside_blank_cells(self):
        for style in [SLIDE_STYLE, DOWN_STYLE]:
            for free in [1, 3, None]:
                desk = Desk(style, [COUNT], free=free)
                self.assertIs(is_sure(desk), False)
                self.assert_sure(desk)
                self.assert_page(Desk(style, [], free=free))

    def test_what_is_raised(self):
        for style in [LAMP_STYLE, BOTH_STYLE, SLIDE_STYLE, STAIR_STYLE]:
            for free in [0, 1, None]:
                self.assert_sure(Desk(style, [], free=free, raised=True))
        self.assertIsNotNone(first_unseen(Desk(SLIDE_STYLE, [], free=1, raised=True)))

    def test_some_is_greater_and_some_is_less(self):
        for desk in [
            PLAIN, Desk(LAMP_STYLE, [NINE]), Desk(LAMP_STYLE, [NINE, COUNT], free=2), Desk(BOTH_STYLE, []),
            Desk(LAMP_STYLE, [("copy", BOTH_STYLE)], free=1), Desk(BOTH_STYLE, [("copy", BOTH_STYLE), COUNT]),
            Desk(LAMP_STYLE, [("rest", 3, [1, 1, 0]), ("rest", 3, [0, 1, 2])], most=4), Desk(DOWN_STYLE, [], free=1),
            Desk(SLIDE_STYLE, [NINE], free=1), Desk(BOTH_STYLE, [("rest", 9, [1, 0, 0])]),
            Desk(BOTH_STYLE, [("rest", 2, [1])] * 3, most=2), Desk(SLIDE_STYLE, [], free=None, most=1),
        ]:
            self.assert_page(desk)

    def test_cells_that_are_altered_against_each_other(self):
        # 0 becomes 1, and 9 becomes 8: unseen only together, and the cell further left tells which is greater.
        desk = Desk(BOTH_STYLE, [NINE], most=2)
        told = self.assert_page(desk)
        self.assertEqual(sorted(len(seen) for _, seen, _ in told), [2, 3])
        self.assert_sure(desk.with_limits(free=0, most=1, raised=False))

    def test_numbers_of_copies(self):
        # What one row wins the other one loses, so neither number alone is 1.
        told = self.assert_page(Desk(UNEVEN_STYLE, [], most=1))
        self.assertEqual(sorted(told), [([1, 0], [1, 3], 2), ([9], [7], 3)])

    def test_against_traces(self):
        counts = {}
        for desk in reference.random_desks(51, 250, product=5):
            found = orders(desk)
            key = tuple(sorted(found))
            counts[key] = counts.get(key, 0) + 1
            if found == {1, -1}:
                self.assert_page(desk)
            else:
                self.assert_sure(desk)
        self.assertGreater(min(counts.get(key, 0) for key in [(), (1,), (-1,), (-1, 1)]), 5)

    def test_against_short_amounts(self):
        pages = 0
        for desk in reference.random_desks(52, 150, product=3, frees=(0, 0, 0, 1)):
            ways = short_ways(desk, reference.amounts_up_to(2))
            signs = {reference.number(row) > reference.number(amount) for amount, row in ways}
            if signs == {True, False}:
                pages += 1
                self.assert_page(desk)
            if is_page_sure(desk):
                self.assertLess(len(signs), 2)
        self.assertGreater(pages, 10)

    def test_what_is_returned_is_new(self):
        for desk in [PLAIN, Desk(DOWN_STYLE, [NINE], free=1)]:
            told, again = altered_page(desk), altered_page(desk)
            self.assertEqual(told, again)
            found = lists_of(told) + lists_of(again)
            self.assertEqual(len({id(entry) for entry in found}), len(found))
            before = copied(again)
            for entry in lists_of(told):
                entry.clear()
            self.assertEqual(again, before)
            self.assertEqual(altered_page(desk), before)

    def test_the_desk_stays(self):
        checks = [("rest", 3, [1, 2]), ("copy", LAMP_STYLE), COUNT]
        desk = Desk(LAMP_STYLE, checks, free=1, most=3)
        is_page_sure(desk)
        judge_page(desk, altered_page(desk))
        self.assertEqual(desk, Desk(Style(LAMPS), copied(checks), free=1, most=3))


class JudgeTest(PageCase):
    def assert_judged(self, desk, told, expected):
        before = copied(told)
        self.assertIs(judge_page(desk, told), expected)
        self.assertEqual(told, before)
        self.assertIs(is_altered(desk, told), expected)

    def test_examples(self):
        self.assert_judged(PLAIN, [([1], [3], 1), ([9], [8], 2)], True)
        self.assert_judged(PLAIN, [([1], [3], 1), ([9], [8], 1)], False)
        self.assertIs(judge_page(told=[([1], [3], 1), ([9], [8], 2)], desk=PLAIN), True)

    def test_rows_in_any_order_and_twice(self):
        self.assert_judged(PLAIN, [([9], [8], 2), ([1], [3], 1)], True)
        self.assert_judged(PLAIN, [([9], [8], 1), ([1], [3], 1), ([9], [8], 1)], True)
        self.assert_judged(PLAIN, [([9], [8], 2), ([1], [3], 1), ([9], [8], 1)], False)

    def test_rows_that_stay(self):
        rows = [([1], [3], 1), ([9], [8], 2)]
        self.assert_judged(PLAIN, rows + [([5], [5], 1)], True)
        self.assert_judged(PLAIN, [([5, 0], [5, 0], HUGE)] + rows + [([7], [7], 3)], True)
        self.assert_judged(PLAIN, [([5], [5], 1)], False)
        self.assert_judged(PLAIN, [([5], [5], 7), ([1, 2], [1, 2], HUGE)], False)

    def test_no_row(self):
        for desk in [PLAIN, Desk(BAR_STYLE, []), Desk(LAMP_STYLE, [NINE, COUNT], free=None, raised=True)]:
            self.assert_judged(desk, [], False)

    def test_rows_that_stay_must_be_good(self):
        desk = Desk(LAMP_STYLE, [NINE])
        for stays, expected in [([9], True), ([1, 8], True), ([1, 0], False), ([8, 9], False)]:
            told = altered_page(desk) + [(stays, stays, 1)]
            self.assert_judged(desk, told, expected)
            self.assert_judged(desk, told[::-1], expected)

    def test_what_is_not_good(self):
        # Each row is an alteration, and the sums are the same.
        even = Desk(LAMP_STYLE, [("rest", 2, [1])])
        self.assert_judged(even, [([1], [3], 1), ([9], [8], 2)], False)
        self.assert_judged(even, [([1, 1], [1, 3], 1), ([1, 9], [1, 8], 2)], False)
        self.assert_judged(even, [([2], [8], 1), ([9], [8], 6)], False)
        self.assert_judged(even, [([8], [8], 1), ([1], [8], 1), ([9], [8], 7)], False)

    def test_rows_that_are_no_alteration(self):
        self.assert_judged(PLAIN, [([3], [1], 1), ([1], [3], 1)], False)
        self.assert_judged(PLAIN, [([8], [9], 2), ([9], [8], 2)], False)
        self.assert_judged(PLAIN, [([1, 0], [1], 1), ([1], [1, 0], 1)], False)

    def test_rows_that_are_not_possible(self):
        rows = [([1, 1], [3, 3], 1), ([9, 9], [8, 8], 2)]
        self.assert_judged(PLAIN, rows, True)
        self.assert_judged(PLAIN.with_limits(free=0, most=2, raised=False), rows, True)
        self.assert_judged(PLAIN.with_limits(free=0, most=1, raised=False), rows, False)
        self.assert_judged(PLAIN.with_limits(free=0, most=None, raised=True), rows, False)
        rows = [([9], [1, 9], 1), ([9], [8], 10)]
        self.assert_judged(PLAIN, rows, False)
        self.assert_judged(PLAIN.with_limits(free=1, most=1, raised=False), rows, True)
        self.assert_judged(PLAIN.with_limits(free=None, most=None, raised=False), rows, True)
        self.assert_judged(PLAIN.with_limits(free=1, most=1, raised=True), rows, False)
        counted = PLAIN.with_limits(free=1, most=1, raised=False).with_checks([COUNT])
        self.assert_judged(counted, rows, False)
        self.assert_judged(counted, [([1], [3], 1), ([9], [8], 2)], True)

    def test_rows_with_copies(self):
        rows = [([1], [3], 1), ([9], [8], 2)]
        self.assert_judged(PLAIN.with_checks([("copy", LAMP_STYLE)]), rows, True)
        self.assert_judged(PLAIN.with_checks([("copy", BAR_STYLE)]), rows, False)
        self.assert_judged(PLAIN.with_checks([("copy", STAIR_STYLE)]), rows, False)
        self.assert_judged(PLAIN.with_checks([("copy", SLIDE_STYLE)]), rows, False)

    def test_numbers_of_copies(self):
        for number in [1, 2, 9, HUGE]:
            self.assert_judged(PLAIN, [([1], [3], number), ([9], [8], 2 * number)], True)
            self.assert_judged(PLAIN, [([1], [3], number), ([9], [8], 2 * number + 1)], False)
            self.assert_judged(PLAIN, [([1], [3], number), ([9], [8], number)], False)
        for number in [0, -1, -HUGE]:
            self.assert_judged(PLAIN, [([1], [3], number), ([9], [8], 2 * number)], False)
            self.assert_judged(PLAIN, [([1], [3], 1), ([9], [8], 2), ([5], [5], number)], False)
            self.assert_judged(PLAIN, [([5], [5], number), ([1], [3], 1), ([9], [8], 2)], False)
            self.assert_judged(PLAIN, [([1], [3], 2), ([9], [8], 4), ([1], [3], number), ([9], [8], 2 * number)], False)
        self.assert_judged(PLAIN, [([1], [3], 2), ([1], [3], -1), ([9], [8], 2)], False)

    def test_a_returned_page_with_other_numbers_of_copies(self):
        for desk in [PLAIN, Desk(BOTH_STYLE, [("rest", 9, [1, 0, 0])]), Desk(UNEVEN_STYLE, [], most=1)]:
            (amount, seen, number), (other, less, many) = altered_page(desk)
            for factor in [1, 2, 100, HUGE]:
                told = [(amount, seen, number * factor), (other, less, many * factor)]
                self.assert_judged(desk, told, True)
                self.assert_judged(desk, told + [(less, less, 1)], True)
                self.assert_judged(desk, [(amount, seen, number * factor + 1), told[1]], False)
                self.assert_judged(desk, [told[0], (other, less, many * factor + 1)], False)
            self.assert_judged(desk, [(amount, seen, 0), (other, less, 0)], False)
            self.assert_judged(desk, [(amount, seen, number)], False)

    def test_many_rows_of_long_amounts(self):
        rows = [([1] * 30, [3] * 30, 1), ([9] * 30, [8] * 30, 2)] * 50
        self.assert_judged(PLAIN, rows, True)
        self.assert_judged(PLAIN, rows[:-1], False)
        self.assert_judged(PLAIN, rows[:-2] + [([1] * 30, [3] * 29 + [1], 1), rows[-1]], False)

    def test_rows_of_other_functions(self):
        desk = Desk(LAMP_STYLE, [NINE, ("copy", LAMP_STYLE)])
        told = altered_page(desk)
        for way in [first_unseen(desk), cheapest(desk)]:
            self.assert_judged(desk, told + [(way[0], way[0], 3), (way[1], way[1], 1)], True)
            self.assert_judged(desk, told + [way + (1,)], False)

    def test_against_the_definition(self):
        source = random.Random(53)
        seen = {True: 0, False: 0}
        for desk in reference.random_desks(54, 150, product=3, frees=(0, 0, 1, None)):
            amounts = [amount for amount in reference.amounts_up_to(2) if source.random() < 0.3]
            ways = short_ways(desk, amounts)
            gains = [reference.number(row) - reference.number(amount) for amount, row in ways]
            for _ in range(30 if min(gains, default=0) < 0 < max(gains, default=0) else 3):
                chosen = [source.randrange(len(ways)) for _ in range(2) if ways]
                told = [ways[at] + (source.randint(1, 3),) for at in chosen]
                if ways and source.random() < 0.8:
                    told = [ways[at] + (abs(gains[other]),) for at, other in zip(chosen, chosen[::-1])]
                for amount in source.sample(amounts, source.randint(0, 1)):
                    told.insert(source.randint(0, 1), (amount, amount, source.randint(0, 8)))
                expected = is_altered(desk, told)
                seen[expected] += 1
                self.assert_judged(desk, told, expected)
        self.assertGreater(min(seen.values()), 50)


class ErrorTest(ErrorCase):
    def test_no_amounts(self):
        for desk in [PLAIN, Desk(BAR_STYLE, [NINE, COUNT], raised=True)]:
            for wrong in NO_AMOUNTS:
                for told in [
                    [(wrong, [1], 1)], [([1], wrong, 1)], [(wrong, wrong, 1)], [([1], [3], 1), (wrong, [8], 2)],
                    [([1], [3], 1), ([9], wrong, 2)], [([1], [1], 1), (wrong, [0], 2), ([0, 7], [-1], 1)],
                ]:
                    before = copied(told)
                    self.assert_copies(InvalidAmount, wrong, judge_page, desk, told)
                    self.assertEqual(told, before)

    def test_the_first_one_row_by_row(self):
        wrongs = [[], [0], [0, 1], [10], [1, -1], [1, HUGE]]
        for first in wrongs:
            for second in wrongs:
                for told in [
                    [(first, second, 1)], [([1], first, 1), (second, [1], 1)], [(first, [1], 1), (second, [1], 1)],
                    [([1], [3], 1), ([1], first, 1), ([2], second, 1), (second, first, 1)],
                ]:
                    self.assert_fails(InvalidAmount, first, judge_page, PLAIN, told)

    def test_before_all_else(self):
        for told in [
            [([1], [3], 0), ([0], [3], 1)], [([3], [1], -HUGE), ([1], [0], -1)], [([5], [5], 1), ([1], [0], 0)],
            [([1], [9, 9], 1), ([0], [1], 1)], [([2], [3], 1)] * 9 + [([0], [0], 1)],
        ]:
            for desk in [PLAIN, Desk(BAR_STYLE, [("rest", 7, [1])])]:
                value = [0]
                self.assert_fails(InvalidAmount, value, judge_page, desk, told)

    def test_a_stored_list_is_new(self):
        wrong = [1, 10]
        value = self.assert_fails(InvalidAmount, [1, 10], judge_page, PLAIN, [(wrong, wrong, 1)])
        self.assertIsNot(value, wrong)
        wrong.append(3)
        self.assertEqual(value, [1, 10])
        value.clear()
        self.assertEqual(wrong, [1, 10, 3])


if __name__ == "__main__":
    unittest.main()
