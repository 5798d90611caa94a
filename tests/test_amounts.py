import random
import unittest

from addedink.amounts import altered_cells, check_figures, is_good, is_possible, is_unseen, price
from addedink.desks import Desk
from addedink.errors import InvalidAmount
from addedink.styles import Style

from tests import reference
from tests.cases import ErrorCase
from tests.samples import BARS, FEW, LAMPS, NO_AMOUNTS, STAIRS

LAMP_STYLE = Style(LAMPS)
BAR_STYLE = Style(BARS)
STAIR_STYLE = Style(STAIRS)
FEW_STYLE = Style(FEW)
HUGE = 10 ** 59 + 3
NINE = Desk(LAMP_STYLE, [("rest", 9, [1])])
WIDE = Desk(LAMP_STYLE, [], free=1, most=1)


def random_amount(source, many):
    return [source.randint(1, 9)] + [source.randint(0, 9) for _ in range(many - 1)]


def random_altered(source, desk, amount):
    """A list that is an alteration in the desk's style, or nearly one."""
    shapes = desk.style.shapes
    altered = list(amount)
    for at, figure in enumerate(amount):
        choices = [other for other in range(10) if reference.cell_cost(shapes, figure, other) is not None]
        if source.random() < 0.3:
            altered[at] = source.choice(choices)
        elif source.random() < 0.02:
            altered[at] = source.randint(0, 9)
    altered = [source.randint(0, 9) for _ in range(source.choice([0, 0, 0, 0, 1, 2, 3, 4]))] + altered
    altered = altered[source.choice([0] * 9 + [1]):]
    return altered if altered and altered[0] != 0 else [1] + altered[1:]


def wide_desk(source):
    """A desk with up to six checks of up to 12 weights."""
    checks = []
    for _ in range(source.randint(0, 6)):
        kind = source.choice(["rest", "rest", "copy", "count"])
        if kind == "rest":
            modulus = source.choice([2, 2, 3, 9, 10 ** 6])
            weights = [source.choice([0, 1, -1, modulus, -5, HUGE, -HUGE]) for _ in range(source.randint(1, 12))]
            checks.append(("rest", modulus, weights))
        elif kind == "copy":
            checks.append(("copy", source.choice([LAMP_STYLE, STAIR_STYLE, STAIR_STYLE, BAR_STYLE])))
        elif source.random() < 0.5:
            checks.append(("count",))
    return Desk(
        source.choice([LAMP_STYLE, STAIR_STYLE]), checks, free=source.choice([0, 1, 2, 3, None]),
        most=source.choice([1, 2, 4, None, None]), raised=source.choice([True, False]),
    )


class ExampleTest(unittest.TestCase):
    def test_nine(self):
        self.assertIs(is_good(NINE, [4, 5]), True)
        self.assertIs(is_unseen(NINE, [4, 5], [9, 9]), True)
        self.assertIs(is_possible(NINE, [4, 5], [9, 5]), True)
        self.assertIs(is_unseen(NINE, [4, 5], [9, 5]), False)
        self.assertEqual(price(NINE, [4, 5], [9, 9]), 3)
        self.assertEqual(altered_cells([4, 5], [1, 9, 5]), [1, 2])
        self.assertEqual(check_figures(NINE, [1, 7]), [1])

    def test_wide(self):
        told = WIDE.with_checks([("count",)])
        copied = WIDE.with_checks([("copy", LAMP_STYLE)])
        self.assertIs(is_unseen(WIDE, [7], [1, 7]), True)
        self.assertIs(is_unseen(WIDE, [7], [1, 9]), False)
        self.assertIs(is_unseen(told, [7], [1, 7]), False)
        self.assertEqual(copied.period, 1)
        self.assertEqual(price(copied, [7], [9]), 6)


class GoodTest(unittest.TestCase):
    def test_weights_are_counted_from_the_right(self):
        desk = Desk(BAR_STYLE, [("rest", 1000, [1, 10, 100])])
        self.assertIs(is_good(desk, [1, 2, 3]), False)
        self.assertIs(is_good(desk, [1, 0, 0, 0]), False)
        self.assertIs(is_good(desk, [1, 0, 0, 9, 0, 0]), True)
        self.assertIs(is_good(Desk(BAR_STYLE, [("rest", 10, [1, 0])]), [9, 0, 9, 0]), True)
        self.assertIs(is_good(Desk(BAR_STYLE, [("rest", 10, [0, 1])]), [9, 0, 9, 0]), False)
        self.assertIs(is_good(Desk(BAR_STYLE, [("rest", 10, [0, 1])]), [5, 3, 5, 3]), True)

    def test_all_checks_are_passed(self):
        desk = Desk(BAR_STYLE, [("rest", 2, [1]), ("count",), ("rest", 3, [1]), ("copy", LAMP_STYLE)])
        good = [figure for figure in range(1, 10) if is_good(desk, [figure])]
        self.assertEqual(good, [6])

    def test_without_a_rest_check_each_amount_is_good(self):
        for checks in [[], [("count",)], [("copy", BAR_STYLE), ("count",)]]:
            self.assertIs(is_good(Desk(LAMP_STYLE, checks), [7, 1]), True)

    def test_long_amounts_and_weights(self):
        source = random.Random(1)
        seen = {True: 0, False: 0}
        for many in range(1, 31):
            for length in range(1, 13):
                modulus = source.choice([2, 3, 7, 10 ** 6])
                weights = [source.choice([0, 1, -1, -7, HUGE, -HUGE]) for _ in range(length)]
                desk = Desk(BAR_STYLE, [("rest", modulus, weights)])
                amount = random_amount(source, many)
                expected = reference.good(desk, amount)
                seen[expected] += 1
                self.assertIs(is_good(desk, amount), expected)
        self.assertGreater(min(seen.values()), 20)

    def test_limits_do_not_matter(self):
        for desk in [NINE.with_limits(free=None, most=1, raised=True), NINE.with_limits(free=3, most=4, raised=False)]:
            self.assertIs(is_good(desk, [9]), True)
            self.assertIs(is_good(desk, [8]), False)


class PossibleTest(unittest.TestCase):
    def possible(self, amount, altered, style=LAMP_STYLE, **limits):
        told = is_possible(Desk(style, [], **limits), amount, altered)
        self.assertIs(is_unseen(Desk(style, [], **limits), amount, altered), told)
        return told

    def test_an_amount_is_no_alteration_of_itself(self):
        for amount in [[1], [1, 0], [9] * 30]:
            for free in [0, 3, None]:
                self.assertIs(self.possible(amount, list(amount), free=free), False)
                self.assertIs(self.possible(amount, amount, free=free), False)

    def test_figures_that_cannot_be_become(self):
        self.assertIs(self.possible([1], [7]), True)
        self.assertIs(self.possible([7], [1]), False)
        self.assertIs(self.possible([1, 1], [7, 2]), False)
        self.assertIs(self.possible([1, 7], [7, 7]), True)
        self.assertIs(self.possible([7], [3], style=BAR_STYLE), False)

    def test_a_shorter_one_is_none(self):
        for free in [0, 1, None]:
            self.assertIs(self.possible([1, 1], [1], free=free), False)
            self.assertIs(self.possible([1, 1], [7], free=free), False)
            self.assertIs(self.possible([1] * 30, [1], free=free), False)

    def test_free(self):
        for free in [0, 1, 2, 3]:
            for ahead in range(5):
                altered = [1] * ahead + [3]
                self.assertIs(self.possible([1], altered, free=free), ahead <= free)
        for ahead in range(30):
            self.assertIs(self.possible([1], [1] * ahead + [3], free=None), True)
        self.assertIs(self.possible([1], [1, 0, 0, 1], free=3), True)
        self.assertIs(self.possible([3], [1, 0, 0, 1], free=3), False)

    def test_most(self):
        for most in [1, 2, 3, 4]:
            for many in range(1, 8):
                amount = [1] * 8
                altered = [7] * many + [1] * (8 - many)
                self.assertIs(self.possible(amount, altered, most=most), many <= most)
                self.assertIs(self.possible(amount, altered[::-1], most=most), many <= most)
        self.assertIs(self.possible([1] * 30, [7] * 30), True)

    def test_newly_written_cells_are_altered(self):
        self.assertIs(self.possible([1], [1, 0, 1], free=2, most=2), True)
        self.assertIs(self.possible([1], [1, 0, 1], free=2, most=1), False)
        self.assertIs(self.possible([1], [1, 0, 7], free=2, most=2), False)
        self.assertIs(self.possible([1], [1, 0, 7], free=2, most=3), True)

    def test_raised(self):
        self.assertIs(self.possible([9], [8]), True)
        self.assertIs(self.possible([9], [8], raised=True), False)
        self.assertIs(self.possible([1], [7], raised=True), True)
        self.assertIs(self.possible([9, 1], [8, 7], raised=True), False)
        self.assertIs(self.possible([1, 9], [7, 8], raised=True), True)
        self.assertIs(self.possible([9], [1, 8], raised=True, free=1), True)
        self.assertIs(self.possible([9, 9], [1, 0, 0], raised=True, free=1), False)
        self.assertIs(self.possible([5, 3], [1, 0, 0, 6, 9], raised=True, free=None), True)

    def test_limits_together(self):
        limits = {"free": 1, "most": 2, "raised": True}
        self.assertIs(self.possible([9, 1], [1, 8, 1], **limits), True)
        self.assertIs(self.possible([9, 1], [1, 8, 7], **limits), False)
        self.assertIs(self.possible([9, 1], [8, 1], **limits), False)
        self.assertIs(self.possible([9, 1], [1, 1, 9, 1], **limits), False)

    def test_checks_do_not_matter(self):
        checks = [("rest", 9, [1]), ("copy", BAR_STYLE), ("count",)]
        for altered in [[7], [1, 1]]:
            self.assertIs(is_possible(Desk(LAMP_STYLE, checks, free=1), [1], altered), True)
            self.assertIs(is_unseen(Desk(LAMP_STYLE, checks, free=1), [1], altered), False)


class UnseenTest(unittest.TestCase):
    def unseen(self, checks, amount, altered, style=LAMP_STYLE, **limits):
        return is_unseen(Desk(style, checks, **limits), amount, altered)

    def test_both_are_good(self):
        rest = [("rest", 9, [1])]
        self.assertIs(self.unseen(rest, [4, 5], [9, 9]), True)
        self.assertIs(self.unseen(rest, [4, 5], [9, 5]), False)
        self.assertIs(self.unseen(rest, [1, 5], [9, 9]), False)
        self.assertIs(self.unseen(rest, [1, 5], [7, 5]), False)
        self.assertIs(self.unseen(rest + [("rest", 2, [1])], [4, 5], [9, 9]), False)
        self.assertIs(self.unseen([("rest", 2, [1])] + rest, [4, 5], [9, 9]), False)
        self.assertIs(self.unseen(rest + [("rest", 3, [1])], [4, 5], [9, 9]), True)

    def test_each_copy_can_be_altered_too(self):
        stairs, lamps, bars = ("copy", STAIR_STYLE), ("copy", LAMP_STYLE), ("copy", BAR_STYLE)
        self.assertIs(self.unseen([stairs], [1], [7]), True)
        self.assertIs(self.unseen([stairs], [1, 1], [1, 0]), False)
        self.assertIs(self.unseen([lamps, stairs], [1], [7]), True)
        self.assertIs(self.unseen([stairs, bars], [1], [7]), False)
        self.assertIs(self.unseen([bars, stairs], [1], [7]), False)
        self.assertIs(self.unseen([lamps], [1], [2], style=STAIR_STYLE), False)
        self.assertIs(self.unseen([lamps], [1], [3], style=STAIR_STYLE), True)

    def test_cells_that_stay_do_not_matter_to_copies(self):
        self.assertIs(self.unseen([("copy", FEW_STYLE)], [9, 1], [9, 7]), True)
        self.assertIs(self.unseen([("copy", FEW_STYLE)], [1, 1], [3, 7]), False)

    def test_a_new_figure_can_stand_in_a_blank_cell_of_each_copy(self):
        self.assertIs(self.unseen([("copy", BAR_STYLE)], [1], [5, 1], free=1), True)

    def test_count(self):
        self.assertIs(self.unseen([("count",)], [1], [7], free=3), True)
        self.assertIs(self.unseen([("count",)], [1], [1, 7], free=3), False)
        self.assertIs(self.unseen([("count",)], [1], [1, 1], free=None), False)
        self.assertIs(self.unseen([("rest", 2, [2]), ("count",), ("count",)], [1], [1, 1], free=1), False)


class RandomTest(unittest.TestCase):
    def test_against_the_definitions(self):
        source = random.Random(7)
        seen = {}
        for _ in range(4000):
            desk = wide_desk(source)
            amount = random_amount(source, source.randint(1, source.choice([2, 5, 30])))
            altered = random_altered(source, desk, amount)
            told = (
                is_possible(desk, amount, altered), is_unseen(desk, amount, altered),
                price(desk, amount, altered), altered_cells(amount, altered), is_good(desk, altered),
            )
            expected = (
                reference.possible(desk, amount, altered), reference.unseen(desk, amount, altered),
                reference.cost(desk, amount, altered), reference.changed(amount, altered),
                reference.good(desk, altered),
            )
            self.assertEqual(told, expected)
            self.assertEqual([type(entry) for entry in told], [type(entry) for entry in expected])
            key = (told[0], told[1], told[2] is None)
            seen[key] = seen.get(key, 0) + 1
        for key in [(True, True, False), (True, False, False), (True, False, True), (False, False, False),
                    (False, False, True)]:
            self.assertGreater(seen[key], 50, key)

    def test_desks_and_styles_that_methods_made(self):
        source = random.Random(8)
        for _ in range(200):
            desk = wide_desk(source)
            amount = random_amount(source, source.randint(1, 4))
            altered = random_altered(source, desk, amount)
            base = Desk(BAR_STYLE, desk.checks[:2], most=1)
            made = base.with_style(desk.style.redrawn(9, [98, 99]).redrawn(9, desk.style[9]))
            made = made.with_checks(desk.checks[2:])
            made = made.with_limits(free=desk.free, most=desk.most, raised=desk.raised)
            for call in [is_possible, is_unseen, price]:
                self.assertEqual(call(made, amount, altered), call(desk, amount, altered))
            for call in [is_good, check_figures]:
                self.assertEqual(call(made, amount), call(desk, amount))


class CellsTest(unittest.TestCase):
    def test_cells_are_numbered_from_the_right(self):
        self.assertEqual(altered_cells([1, 2, 3], [1, 2, 4]), [0])
        self.assertEqual(altered_cells([1, 2, 3], [9, 2, 4]), [0, 2])
        self.assertEqual(altered_cells([1, 2, 3], [1, 2, 3]), [])
        self.assertEqual(altered_cells([1, 2, 3], [3]), [1, 2])
        self.assertEqual(altered_cells([3], [1, 0, 0]), [0, 1, 2])
        self.assertEqual(altered_cells([3], [1, 0, 3]), [1, 2])
        self.assertEqual(altered_cells([1, 0, 0], [5]), [0, 1, 2])

    def test_long_amounts(self):
        self.assertEqual(altered_cells([1] * 30, [2] * 30), list(range(30)))
        self.assertEqual(altered_cells([1] * 30, [1]), list(range(1, 30)))
        self.assertEqual(altered_cells([1], [1] * 45), list(range(1, 45)))

    def test_nothing_is_asked_about_becoming(self):
        self.assertEqual(altered_cells([8], [1]), [0])


class PriceTest(unittest.TestCase):
    def test_no_alteration(self):
        for amount, altered in [([1], [1]), ([1, 1], [1]), ([7], [1]), ([8, 1], [1, 7]), ([1, 1], [7, 2])]:
            self.assertIsNone(price(Desk(LAMP_STYLE, []), amount, altered))

    def test_the_price_is_the_sum_over_cells_and_styles(self):
        self.assertEqual(price(Desk(LAMP_STYLE, []), [1], [7]), 1)
        self.assertEqual(price(Desk(LAMP_STYLE, []), [1], [8]), 5)
        self.assertEqual(price(Desk(LAMP_STYLE, []), [1, 1, 1], [7, 1, 8]), 6)
        self.assertEqual(price(Desk(LAMP_STYLE, []), [1], [8, 0, 1]), 13)
        self.assertEqual(price(Desk(LAMP_STYLE, [("copy", STAIR_STYLE)]), [1], [7]), 7)
        self.assertEqual(price(Desk(LAMP_STYLE, [("copy", STAIR_STYLE), ("copy", LAMP_STYLE)]), [1], [7]), 8)
        self.assertEqual(price(Desk(LAMP_STYLE, [("copy", BAR_STYLE)]), [7], [8, 7]), 8)

    def test_figures_that_a_copy_cannot_become(self):
        self.assertIsNone(price(Desk(LAMP_STYLE, [("copy", BAR_STYLE)]), [1], [7]))
        self.assertIsNone(price(Desk(LAMP_STYLE, [("copy", STAIR_STYLE), ("copy", BAR_STYLE)]), [1], [7]))
        self.assertIsNone(price(Desk(LAMP_STYLE, [("copy", FEW_STYLE)]), [1, 1], [7, 3]))
        self.assertIsNone(price(Desk(STAIR_STYLE, [("copy", LAMP_STYLE)]), [1], [2]))

    def test_limits_rest_checks_and_counts_do_not_matter(self):
        checks = [("rest", 10 ** 6, [1]), ("count",), ("rest", 7, [1, 3, -1])]
        desk = Desk(LAMP_STYLE, checks, free=0, most=1, raised=True)
        self.assertEqual(price(desk, [9], [8]), 1)
        self.assertEqual(price(desk, [9, 9], [8, 8]), 2)
        self.assertEqual(price(desk, [7], [1, 1, 1, 1, 7]), 8)


class CheckFiguresTest(unittest.TestCase):
    def test_all_or_none(self):
        self.assertEqual(check_figures(Desk(BAR_STYLE, []), [5]), list(range(10)))
        self.assertEqual(check_figures(Desk(BAR_STYLE, [("count",), ("copy", LAMP_STYLE)]), [5]), list(range(10)))
        self.assertEqual(check_figures(Desk(BAR_STYLE, [("rest", 100, [1])]), [1]), [])
        self.assertEqual(check_figures(Desk(BAR_STYLE, [("rest", 2, [0, 1])]), [1]), [])

    def test_several(self):
        self.assertEqual(check_figures(NINE, [9]), [0, 9])
        self.assertEqual(check_figures(NINE, [1]), [8])
        self.assertEqual(check_figures(Desk(BAR_STYLE, [("rest", 3, [1])]), [1]), [2, 5, 8])
        self.assertEqual(check_figures(Desk(BAR_STYLE, [("rest", 3, [1]), ("rest", 2, [1, 0])]), [1]), [2, 8])

    def test_the_amount_moves_by_one_cell(self):
        desk = Desk(BAR_STYLE, [("rest", 10, [1, 3])])
        self.assertEqual(check_figures(desk, [1]), [7])
        self.assertEqual(check_figures(desk, [1, 2]), [3])

    def test_against_the_definitions(self):
        source = random.Random(9)
        for many in range(1, 31):
            for _ in range(5):
                desk = wide_desk(source)
                amount = random_amount(source, many)
                expected = [figure for figure in range(10) if reference.good(desk, amount + [figure])]
                self.assertEqual(check_figures(desk, amount), expected)


class ArgumentTest(ErrorCase):
    def test_by_name(self):
        self.assertIs(is_good(desk=NINE, amount=[4, 5]), True)
        self.assertIs(is_possible(altered=[9, 5], amount=[4, 5], desk=NINE), True)
        self.assertIs(is_unseen(altered=[9, 9], amount=[4, 5], desk=NINE), True)
        self.assertEqual(altered_cells(altered=[1, 9, 5], amount=[4, 5]), [1, 2])
        self.assertEqual(price(altered=[9, 9], amount=[4, 5], desk=NINE), 3)
        self.assertEqual(check_figures(amount=[1, 7], desk=NINE), [1])

    def test_the_lists_stay_and_are_not_kept(self):
        amount, altered = [4, 5], [9, 9]
        cells = altered_cells(amount, altered)
        figures = check_figures(NINE, amount)
        for call in [is_possible, is_unseen, price]:
            call(NINE, amount, altered)
        is_good(NINE, amount)
        self.assertEqual((amount, altered), ([4, 5], [9, 9]))
        amount.append(0)
        altered.clear()
        self.assertEqual((cells, figures), ([0, 1], [0, 9]))
        self.assertIsNot(altered_cells([1], [3]), altered_cells([1], [3]))
        figures.clear()
        self.assertEqual(check_figures(NINE, [4, 5]), [0, 9])

    def test_no_amounts(self):
        for wrong in NO_AMOUNTS:
            with self.subTest(wrong=wrong):
                for call in [is_good, check_figures]:
                    self.assert_copies(InvalidAmount, wrong, call, NINE, wrong)
                for call in [is_possible, is_unseen, price]:
                    self.assert_copies(InvalidAmount, wrong, call, NINE, wrong, [1])
                    self.assert_copies(InvalidAmount, wrong, call, NINE, [4, 5], wrong)
                    self.assert_copies(InvalidAmount, wrong, call, NINE, [1], wrong)
                    self.assert_copies(InvalidAmount, wrong, call, NINE, wrong, [0, 3])
                self.assert_copies(InvalidAmount, wrong, altered_cells, wrong, [1])
                self.assert_copies(InvalidAmount, wrong, altered_cells, [1], wrong)
                self.assert_copies(InvalidAmount, wrong, altered_cells, wrong, [0, 3])

    def test_amounts_may_end_in_zeros(self):
        self.assertIs(is_good(NINE, [9, 0, 0]), True)
        self.assertIs(is_possible(Desk(LAMP_STYLE, [], free=1), [1, 0], [1, 1, 0]), True)


if __name__ == "__main__":
    unittest.main()
