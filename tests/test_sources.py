"""All unseen alterations of an amount, and all amounts that may stand behind a seen one."""

import random
import unittest

from addedink.amounts import is_good, is_unseen, price
from addedink.desks import Desk
from addedink.errors import InvalidAmount, NotGood, Unbounded
from addedink.styles import Style
from addedink.unseen import likeliest, sources, unseen_alterations

from tests import reference
from tests.cases import ErrorCase
from tests.samples import BARS, FEW, LAMPS, NO_AMOUNTS, STAIRS, lists_of

LAMP_STYLE = Style(LAMPS)
BAR_STYLE = Style(BARS)
FEW_STYLE = Style(FEW)
STAIR_STYLE = Style(STAIRS)
NINE = Desk(LAMP_STYLE, [("rest", 9, [1])])
PLAIN = Desk(LAMP_STYLE, [])


def expected_sources(desk, seen):
    """All shorter or equally long amounts gone through one by one."""
    return [
        (amount, reference.cost(desk, amount, seen))
        for amount in reference.amounts_up_to(len(seen)) if reference.unseen(desk, amount, seen)
    ]


class AlterationsTest(ErrorCase):
    def test_examples(self):
        self.assertEqual(unseen_alterations(NINE, [4, 5]), [[9, 9]])

    def test_in_order(self):
        self.assertEqual(unseen_alterations(PLAIN, [1]), [[3], [4], [7], [8], [9]])
        self.assertEqual(unseen_alterations(PLAIN, [8]), [])
        self.assertEqual(
            unseen_alterations(PLAIN, [4, 7]),
            [[4, 0], [4, 3], [4, 8], [4, 9], [8, 0], [8, 3], [8, 7], [8, 8], [8, 9], [9, 0], [9, 3], [9, 7], [9, 8],
             [9, 9]],
        )
        wide = Desk(FEW_STYLE, [("rest", 3, [1, 1])], free=2, most=1)
        self.assertEqual(unseen_alterations(wide, [1, 2]), [[7, 2], [3, 1, 2], [6, 1, 2], [9, 1, 2]])
        wide = Desk(FEW_STYLE, [("rest", 9, [1])], free=2)
        self.assertEqual(unseen_alterations(wide, [9])[:4], [[9, 9], [1, 8, 9], [2, 7, 9], [3, 6, 9]])

    def test_no_alteration_begins_with_0(self):
        self.assertEqual(unseen_alterations(PLAIN.with_limits(free=0, most=None, raised=True), [1, 8]), [
            [3, 8], [4, 8], [7, 8], [8, 8], [9, 8],
        ])
        self.assertEqual(len(unseen_alterations(Desk(BAR_STYLE, [], free=3), [1])), 999)
        self.assertEqual(len(unseen_alterations(Desk(BAR_STYLE, [], free=3, most=2), [1])), 99)

    def test_with_a_count_check(self):
        desk = Desk(FEW_STYLE, [("count",)], free=3)
        self.assertEqual(unseen_alterations(desk, [1]), [[7]])
        self.assertEqual(unseen_alterations(desk, [2]), [])

    def test_against_all_alterations(self):
        source = random.Random(1)
        checked = 0
        for desk in reference.random_desks(21, 250, frees=(0, 1, 2, 3)):
            many = source.randint(1, 4 - desk.free)
            amounts = [amount for amount in reference.amounts(many) if reference.good(desk, amount)]
            for amount in source.sample(amounts, min(2, len(amounts))):
                expected = reference.all_unseen(desk, amount, desk.free)
                self.assertEqual(unseen_alterations(desk, amount), expected)
                self.assertEqual(expected, sorted(expected, key=reference.in_order))
                checked += len(expected) > 1
        self.assertGreater(checked, 100)

    def test_errors_and_their_order(self):
        unbound = NINE.with_limits(free=None, most=1, raised=False)
        for desk in [NINE, unbound]:
            for wrong in NO_AMOUNTS:
                self.assert_copies(InvalidAmount, wrong, unseen_alterations, desk, wrong)
            for amount in [[1], [8, 8], [4, 4]]:
                self.assert_copies(NotGood, amount, unseen_alterations, desk, amount)
        self.assert_fails(Unbounded, 0, unseen_alterations, unbound, [4, 5])

    def test_unbounded_though_there_are_few_or_none(self):
        for checks in [[("count",)], [("rest", 9, [1]), ("count",)], []]:
            for most in [1, None]:
                desk = Desk(BAR_STYLE, checks, free=None, most=most)
                self.assert_fails(Unbounded, 0, unseen_alterations, desk, [9])

    def test_with_a_second_check_that_is_not_passed(self):
        desk = Desk(LAMP_STYLE, [("rest", 3, [1]), ("copy", BAR_STYLE), ("rest", 2, [1])])
        self.assert_copies(NotGood, [3], unseen_alterations, desk, [3])
        self.assert_copies(NotGood, [2], unseen_alterations, desk, [2])
        self.assertEqual(unseen_alterations(desk, [6]), [])


class SourcesTest(ErrorCase):
    def test_examples(self):
        self.assertEqual(sources(NINE, [9, 9]), [([4, 5], 3), ([5, 4], 3)])
        self.assertEqual(likeliest(NINE, [9, 9]), [[4, 5], [5, 4]])

    def test_in_order_with_prices(self):
        self.assertEqual(sources(PLAIN, [8])[:3], [([1], 5), ([2], 2), ([3], 2)])
        self.assertEqual(likeliest(PLAIN, [8]), [[6], [9]])
        self.assertEqual(sources(PLAIN, [1]), [])
        self.assertEqual(likeliest(PLAIN, [1]), [])
        wide = Desk(FEW_STYLE, [], free=1)
        self.assertEqual(sources(wide, [7, 7]), [([1], 3), ([7], 2), ([1, 1], 2), ([1, 7], 1), ([7, 1], 1)])
        self.assertEqual(likeliest(wide, [7, 7]), [[1, 7], [7, 1]])
        self.assertEqual(sources(wide.with_checks([("copy", FEW_STYLE)]), [7, 7])[0], ([1], 6))
        self.assertEqual(sources(wide.with_checks([("copy", BAR_STYLE)]), [7, 7]), [([7], 3)])

    def test_shorter_amounts(self):
        for free in [0, 1, 2, 3, None]:
            desk = Desk(BAR_STYLE, [], free=free)
            expected = [([4], 3), ([3, 4], 2), ([2, 3, 4], 1)]
            if free is not None:
                expected = expected[max(0, 3 - free):]
            self.assertEqual(sources(desk, [1, 2, 3, 4]), expected)
            self.assertEqual(sources(desk.with_checks([("count",)]), [1, 2, 3, 4]), [])
        # No amount begins with 0.
        self.assertEqual(sources(Desk(BAR_STYLE, [], free=None), [1, 0, 0, 4]), [([4], 3)])
        self.assertEqual(sources(Desk(BAR_STYLE, [], free=None), [1, 2, 0, 0]), [([2, 0, 0], 1)])

    def test_limits(self):
        desk = Desk(BAR_STYLE, [], free=None, most=2)
        self.assertEqual(sources(desk, [1, 2, 3, 4]), [([3, 4], 2), ([2, 3, 4], 1)])
        desk = PLAIN.with_limits(free=0, most=1, raised=True)
        self.assertEqual([amount for amount, _ in sources(desk, [7, 7])], [[1, 7], [7, 1]])
        self.assertEqual([amount for amount, _ in sources(desk, [8])], [[1], [2], [3], [4], [5], [6], [7]])

    def test_a_seen_amount_that_is_not_good(self):
        for desk in [NINE, NINE.with_limits(free=None, most=None, raised=False)]:
            for seen in [[8], [8, 8], [9, 9, 1]]:
                self.assertEqual(sources(desk, seen), [])
                self.assertEqual(likeliest(desk, seen), [])

    def test_against_all_amounts(self):
        source = random.Random(2)
        checked = 0
        for at, desk in enumerate(reference.random_desks(22, 250)):
            many = 4 if at < 5 else source.randint(1, 3)
            amounts = [amount for amount in reference.amounts(many) if reference.good(desk, amount)]
            for seen in source.sample(amounts, min(2, len(amounts))):
                expected = expected_sources(desk, seen)
                self.assertEqual(sources(desk, seen), expected)
                least = min([cost for _, cost in expected], default=0)
                self.assertEqual(likeliest(desk, seen), [amount for amount, cost in expected if cost == least])
                checked += len(expected) > 1
        self.assertGreater(checked, 80)

    def test_kinds(self):
        for entry in sources(desk=NINE, seen=[9, 9]):
            self.assertIsInstance(entry, tuple)
            self.assertEqual([type(part) for part in entry], [list, int])
        self.assertEqual(likeliest(seen=[9, 9], desk=NINE), [[4, 5], [5, 4]])
        self.assertEqual(unseen_alterations(amount=[4, 5], desk=NINE), [[9, 9]])

    def test_sources_and_alterations_are_the_same_pairs(self):
        desk = Desk(LAMP_STYLE, [("rest", 3, [1, 2])], free=1)
        pairs = []
        for seen in reference.amounts_up_to(2):
            for amount, cost in sources(desk, seen):
                self.assertIs(is_unseen(desk, amount, seen), True)
                self.assertEqual(price(desk, amount, seen), cost)
                pairs.append((amount, seen))
        other_way = [
            (amount, seen) for amount in reference.amounts_up_to(2) if is_good(desk, amount)
            for seen in unseen_alterations(desk, amount) if len(seen) <= 2
        ]
        self.assertGreater(len(pairs), 20)
        self.assertEqual(sorted(pairs), sorted(other_way))

    def test_errors(self):
        for desk in [NINE, PLAIN.with_limits(free=None, most=None, raised=False)]:
            for call in [sources, likeliest]:
                for wrong in NO_AMOUNTS:
                    self.assert_copies(InvalidAmount, wrong, call, desk, wrong)

    def test_desks_that_methods_made(self):
        for desk in reference.random_desks(23, 40, frees=(0, 1, 2)):
            made = Desk(FEW_STYLE, desk.checks[:1], free=None).with_checks(desk.checks[1:]).with_style(desk.style)
            made = made.with_limits(free=desk.free, most=desk.most, raised=desk.raised)
            for amount in reference.amounts_up_to(1):
                self.assertEqual(sources(made, amount), sources(desk, amount))
                self.assertEqual(likeliest(made, amount), likeliest(desk, amount))
                if is_good(desk, amount):
                    self.assertEqual(unseen_alterations(made, amount), unseen_alterations(desk, amount))

    def test_lists_are_new(self):
        desk = NINE.with_limits(free=1, most=None, raised=False)
        for call, passed in [(unseen_alterations, [4, 5]), (sources, [9, 9]), (likeliest, [9, 9])]:
            told = call(desk, passed)
            before = repr(told)
            found = lists_of(told) + lists_of(call(desk, passed)) + [passed]
            self.assertEqual(len({id(entry) for entry in found}), len(found))
            self.assertIn(passed, [[4, 5], [9, 9]])
            for entry in lists_of(told):
                entry.clear()
            passed.append(0)
            self.assertEqual(repr(call(desk, passed[:-1])), before)


if __name__ == "__main__":
    unittest.main()
