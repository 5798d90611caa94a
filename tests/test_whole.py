"""Promises across modules: desks that were read, or made of other ones, at work everywhere."""

import random
import re
import unittest

from addedink.amounts import altered_cells, check_figures, is_good, is_possible, is_unseen, price
from addedink.desks import Desk
from addedink.errors import DoubleShape, InvalidAmount
from addedink.fields import Field
from addedink.lots import is_sure, least_checks, least_redraws
from addedink.pages import altered_page, is_page_sure, judge_page
from addedink.readings import read_desk, read_style
from addedink.styles import Style
from addedink.texts import show_desk, show_style
from addedink.unseen import (
    cheapest, closed, first_unseen, judge_closed, least_price, likeliest, sources, unseen_alterations,
)

from tests import reference
from tests.samples import BARS, FEW, LAMPS, STAIRS, copied, lists_of

LAMP_STYLE = Style(LAMPS)
FEW_STYLE = Style(FEW)
OFFERED = [("count",), ("copy", Style(BARS)), ("rest", 2, [1])]
REDRAWS = [(7, [1, 40]), (0, [41]), (8, [42, 43])]


def good_amount(desk):
    """An amount of one or two figures that is good."""
    return next(amount for amount in reference.amounts_up_to(2) if reference.good(desk, amount))


def field_tells(desk, amount):
    """What a field tells while strokes are added and taken back."""
    field = Field(desk, amount)
    told = [field.left(), field.seen, field.shows_unseen, len(field)]
    stroke = min([stroke for stroke in range(1, 20) if stroke not in field.strokes(0)])
    field(0, stroke)
    told += [field.left(), field.seen, field.strokes(0)]
    field.undo()
    return told + [field == Field(desk, amount)]


def answers(desk):
    """What the functions tell of a desk, where each answer is the only one that is right."""
    amount = good_amount(desk)
    narrow = desk.with_limits(free=min(2, desk.free or 0), most=desk.most, raised=desk.raised)
    way = cheapest(desk)
    page = altered_page(desk)
    found = closed(desk)
    return [
        first_unseen(desk), least_price(desk), way and is_unseen(desk, *way), way and price(desk, *way), is_sure(desk),
        found is None, found and judge_closed(desk, found), unseen_alterations(narrow, amount), sources(desk, [8, 8]),
        likeliest(desk, [9]), check_figures(desk, amount), is_good(desk, [1, 2]), is_possible(desk, [1], [7]),
        is_page_sure(desk), page and judge_page(desk, page), field_tells(narrow, amount), least_checks(desk, OFFERED),
        least_redraws(desk, REDRAWS), show_desk(desk), show_style(desk.style), desk.checks, desk.period,
    ]


def some_desks(seed, many):
    """Random desks to which the offered checks may be added."""
    return reference.random_desks(seed, many, product=4, frees=(0, 0, 1, 2, None))


class MadeTest(unittest.TestCase):
    def test_desks_that_were_read(self):
        read = 0
        for desk in some_desks(81, 60):
            text = show_desk(desk)
            if not re.search("[0-9]{8}", text):
                read += 1
                self.assertEqual(answers(read_desk(text)), answers(desk))
                self.assertEqual(show_desk(desk), text)
        self.assertGreater(read, 30)

    def test_desks_made_of_others(self):
        for desk in some_desks(82, 40):
            expected = answers(desk)
            limits = {"free": desk.free, "most": desk.most, "raised": desk.raised}
            for made in [
                Desk(desk.style, [], **limits).with_checks(desk.checks),
                Desk(desk.style, desk.checks[:1], **limits).with_checks(desk.checks[1:]),
                Desk(FEW_STYLE, desk.checks, **limits).with_style(desk.style),
                Desk(desk.style, desk.checks, free=1, most=1, raised=not desk.raised).with_limits(**limits),
                Desk(read_style(show_style(desk.style)), desk.checks, **limits),
            ]:
                self.assertEqual(made, desk)
                self.assertEqual(answers(made), expected)

    def test_redrawn_styles(self):
        source = random.Random(83)
        redrawn = 0
        for desk in some_desks(84, 40):
            shapes = desk.style.shapes
            figure = source.randrange(10)
            shapes[figure] = source.sample(range(1, 15), source.randint(1, 3))
            try:
                style = desk.style.redrawn(figure, shapes[figure])
            except DoubleShape:
                continue
            redrawn += 1
            made = desk.with_style(style)
            other = Desk(Style(shapes), desk.checks, free=desk.free, most=desk.most, raised=desk.raised)
            self.assertEqual(made, other)
            self.assertEqual(answers(made), answers(other))
        self.assertGreater(redrawn, 30)


class SureTest(unittest.TestCase):
    def assert_sure(self, desk):
        """Check that every function tells that no alteration is unseen."""
        self.assertIs(is_sure(desk), True)
        self.assertEqual([first_unseen(desk), least_price(desk), cheapest(desk), altered_page(desk)], [None] * 4)
        self.assertIs(judge_closed(desk, closed(desk)), True)
        self.assertIs(is_page_sure(desk), True)
        amount = good_amount(desk)
        narrow = desk.with_limits(free=min(2, desk.free or 0), most=desk.most, raised=desk.raised)
        self.assertEqual(unseen_alterations(narrow, amount), [])
        self.assertEqual(sources(desk, [8, 8]) + likeliest(desk, [9, 9]), [])
        self.assertIsNone(Field(narrow, amount).left())

    def test_least_checks(self):
        enough = 0
        for desk in some_desks(85, 90):
            for chosen in least_checks(desk, OFFERED):
                enough += 1
                made = desk.with_checks([OFFERED[at] for at in chosen])
                self.assert_sure(made)
                self.assert_sure(made.with_checks(OFFERED[:2]))
        self.assertGreater(enough, 20)

    def test_least_redraws(self):
        offered = [(7, [40]), (1, [41]), (7, [42, 43])]
        enough = 0
        for desk in some_desks(86, 60):
            desk = desk.with_style(FEW_STYLE)
            for chosen in least_redraws(desk, offered):
                enough += 1
                style = desk.style
                for at in chosen:
                    style = style.redrawn(*offered[at])
                self.assert_sure(desk.with_style(style))
        self.assertGreater(enough, 20)


class UnseenTest(unittest.TestCase):
    def test_what_is_found_is_found_by_all(self):
        found = 0
        for desk in some_desks(87, 80):
            way = first_unseen(desk)
            if way is None or len(way[1]) > 3:
                continue
            amount, altered = way
            found += 1
            self.assertIs(is_unseen(desk, amount, altered), True)
            self.assertIn((amount, price(desk, amount, altered)), sources(desk, altered))
            self.assertGreaterEqual(price(desk, amount, altered), least_price(desk))
            blanks = len(altered) - len(amount)
            narrow = desk.with_limits(free=blanks, most=desk.most, raised=desk.raised)
            self.assertEqual(unseen_alterations(narrow, amount)[:1], [altered])
            field = Field(narrow, amount)
            many = field.left()
            own = Desk(desk.style, [])
            self.assertLessEqual(many, price(own, amount, altered))
            rows = []
            for cell in altered_cells(amount, altered):
                standing = field.strokes(cell)
                rows += [(cell, stroke) for stroke in desk.style[altered[-1 - cell]] if stroke not in standing]
            field.write(rows)
            self.assertEqual((field.seen, field.shows_unseen, field.left()), (altered, True, 0))
            self.assertEqual(len(field), price(own, amount, altered))
            page = altered_page(desk)
            if page is not None:
                stays = [(amount, amount, 5), (altered, altered, 1)]
                self.assertIs(judge_page(desk, page + stays), True)
                self.assertIs(judge_page(desk, page + [(amount, altered, 1)]), False)
        self.assertGreater(found, 30)


class ListsTest(unittest.TestCase):
    def test_arguments_stay_and_returned_lists_are_new(self):
        checks = [("rest", 3, [1, 2]), ("copy", LAMP_STYLE)]
        desk = Desk(LAMP_STYLE, checks, free=1)
        amount = good_amount(desk)
        page = altered_page(desk)
        traces = closed(Desk(Style(BARS), [("rest", 3, [1, 2])]))
        for call, passed in [
            (is_good, [[1, 2]]), (is_possible, [[1], [7]]), (is_unseen, [[1], [7]]), (price, [[1], [7]]),
            (check_figures, [[1]]), (first_unseen, []), (least_price, []), (cheapest, []), (closed, []),
            (judge_closed, [traces]), (unseen_alterations, [amount]), (sources, [[8, 8]]), (likeliest, [[9, 9]]),
            (is_sure, []), (least_checks, [OFFERED]), (least_redraws, [REDRAWS]), (is_page_sure, []),
            (altered_page, []), (judge_page, [page]), (field_tells, [amount]), (show_desk, []),
        ]:
            before, passed = passed, copied(passed)
            told = call(desk, *passed)
            again = call(desk, *copied(passed))
            self.assertEqual(told, again)
            self.assertEqual(passed, before)
            self.assertEqual(desk, Desk(Style(LAMPS), [("rest", 3, [1, 2]), ("copy", Style(LAMPS))], free=1))
            found = lists_of(told) + lists_of(again) + lists_of(passed)
            self.assertEqual(len({id(entry) for entry in found}), len(found), call)
            for entry in lists_of(told) + lists_of(passed):
                entry.clear()
            self.assertEqual(call(desk, *before), again)

    def test_lists_in_errors_are_new(self):
        desk = Desk(LAMP_STYLE, [("rest", 9, [1])])
        wrong = [0, 1]
        for call in [
            is_good, check_figures, unseen_alterations, sources, likeliest, Field,
            lambda desk, amount: judge_page(desk, [(amount, amount, 1)]),
            lambda desk, amount: is_unseen(desk, [1], amount), lambda desk, amount: altered_cells(amount, [1]),
        ]:
            with self.assertRaises(InvalidAmount) as context:
                call(desk, wrong)
            self.assertEqual(context.exception.value, wrong)
            self.assertIsNot(context.exception.value, wrong)

    def test_styles_and_desks_never_change(self):
        style = Style(STAIRS)
        desk = Desk(style, [("rest", 9, [1, 2]), ("copy", style)], free=2)
        answers(desk)
        self.assertEqual(style.shapes, Style(STAIRS).shapes)
        self.assertEqual(desk.checks, [("rest", 9, [1, 2]), ("copy", Style(STAIRS))])
        self.assertEqual((desk.free, desk.most, desk.raised, desk.period), (2, None, False, 2))


if __name__ == "__main__":
    unittest.main()
