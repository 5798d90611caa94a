"""Fields: their cells, what they show, and how strokes are added and taken back."""

import unittest

from addedink.amounts import is_unseen
from addedink.desks import Desk
from addedink.errors import InvalidAmount, InvalidCell, InvalidStroke, NotGood, NothingToUndo, StrokeStands
from addedink.fields import Field
from addedink.styles import Style

from tests.cases import ErrorCase
from tests.samples import BARS, FEW, LAMPS, NO_AMOUNTS, NO_STROKES, STAIRS, Strange, copied

LAMP_STYLE = Style(LAMPS)
BAR_STYLE = Style(BARS)
FEW_STYLE = Style(FEW)
STAIR_STYLE = Style(STAIRS)
NINE = ("rest", 9, [1])
COUNT = ("count",)
HUGE = 10 ** 59 + 7
DESK = Desk(LAMP_STYLE, [NINE], free=1)
ALL_STROKES = list(range(1, 100))


def rows_of(field, many):
    """The strokes of so many cells."""
    return [field.strokes(cell) for cell in range(many)]


def state(field, many):
    """All that a field with so many cells tells."""
    return (rows_of(field, many), field.seen, field.shows_unseen, field.left(), len(field))


class FieldCase(ErrorCase):
    def assert_stays(self, field, many, error, value, call, *rest, **more):
        """Check an error, and that it changes nothing of a field with so many cells."""
        before = state(field, many)
        told = self.assert_fails(error, value, call, *rest, **more)
        self.assertEqual(state(field, many), before)
        return told


class MakeTest(FieldCase):
    def test_example(self):
        field = Field(DESK, [4, 5])
        self.assertEqual((field.seen, field.left()), ([4, 5], 3))
        self.assertIsNone(field(0, 3))
        self.assertEqual((field.seen, field.left()), ([4, 9], 2))
        self.assertIsNone(field.write([(1, 1), (1, 7)]))
        self.assertEqual((field.seen, field.shows_unseen, len(field), field.strokes(2)), ([9, 9], True, 3, []))
        self.assertIsNone(field.undo())
        self.assertEqual((field.seen, field.shows_unseen), ([None, 9], False))
        self.assertIsNone(field(2, 3))
        self.assertEqual(field.seen, [None, None, 9])

    def test_a_new_field(self):
        field = Field(amount=[1, 0, 8], desk=Desk(LAMP_STYLE, [NINE], free=1))
        self.assertEqual(rows_of(field, 4), [LAMPS[8], LAMPS[0], LAMPS[1], []])
        self.assertEqual(field.seen, [1, 0, 8])
        self.assertIs(field.shows_unseen, False)
        self.assertEqual(len(field), 0)
        self.assertIs(type(len(field)), int)

    def test_blank_cells(self):
        for amount in [[7], [7, 1], [1, 0, 0], [9, 9, 9, 9]]:
            for free, blanks in [(0, 0), (1, 1), (2, 2), (3, 3), (None, 3)]:
                for checks in [[], [COUNT]]:
                    cells = len(amount) + blanks
                    field = Field(Desk(LAMP_STYLE, checks, free=free), amount)
                    self.assertEqual(rows_of(field, cells), [LAMPS[figure] for figure in amount[::-1]] + [[]] * blanks)
                    for beyond in [cells, cells + 1, HUGE, -1, -cells, -HUGE]:
                        self.assert_stays(field, cells, InvalidCell, beyond, field.strokes, beyond)
                        self.assert_stays(field, cells, InvalidCell, beyond, field, beyond, 1)

    def test_no_amounts(self):
        for desk in [DESK, Desk(LAMP_STYLE, [], free=None), Desk(BAR_STYLE, [("rest", 7, [1])], free=0)]:
            for amount in NO_AMOUNTS:
                before = list(amount)
                self.assert_copies(InvalidAmount, amount, Field, desk, amount)
                self.assertEqual(amount, before)

    def test_amounts_that_are_not_good(self):
        for amount in [[1], [8], [4, 4], [1, 0, 0]]:
            for checks in [[NINE], [NINE, COUNT], [("rest", 2, [0]), NINE, ("copy", BAR_STYLE)]]:
                self.assert_copies(NotGood, amount, Field, Desk(LAMP_STYLE, checks, free=1), amount)
                self.assert_copies(NotGood, amount, Field, Desk(BAR_STYLE, checks, free=None), amount)
        self.assertEqual(Field(Desk(LAMP_STYLE, [("rest", 9, [0, 1])]), [9, 7]).seen, [9, 7])
        self.assert_copies(NotGood, [9, 7], Field, Desk(LAMP_STYLE, [("rest", 9, [1, 0])]), [9, 7])

    def test_no_amount_comes_before_not_good(self):
        self.assert_copies(InvalidAmount, [0, 1], Field, DESK, [0, 1])
        self.assert_copies(InvalidAmount, [1, 10], Field, DESK, [1, 10])

    def test_stored_lists_are_new(self):
        for amount, error in [([0, 1], InvalidAmount), ([1], NotGood)]:
            value = self.assert_fails(error, list(amount), Field, DESK, amount)
            amount.append(5)
            self.assertEqual(value, amount[:-1])
            value.clear()
            self.assertGreater(len(amount), 1)

    def test_the_passed_amount_is_not_kept(self):
        amount = [4, 5]
        field = Field(DESK, amount)
        self.assertEqual(amount, [4, 5])
        amount[0] = 9
        amount.append(1)
        self.assertEqual(rows_of(field, 3), [LAMPS[5], LAMPS[4], []])
        self.assertEqual((field.seen, field.left()), ([4, 5], 3))
        self.assertEqual(field, Field(DESK, [4, 5]))


class AddTest(FieldCase):
    def test_strokes_ascend(self):
        field = Field(Desk(FEW_STYLE, [], free=1), [1])
        for stroke, expected in [(99, [1, 99]), (50, [1, 50, 99]), (2, [1, 2, 50, 99])]:
            field(cell=0, stroke=stroke)
            self.assertEqual(field.strokes(cell=0), expected)
        field(1, 7)
        field(1, 1)
        self.assertEqual(rows_of(field, 2), [[1, 2, 50, 99], [1, 7]])
        self.assertEqual(len(field), 5)

    def test_each_stroke(self):
        field = Field(Desk(LAMP_STYLE, [], free=1), [1])
        for stroke in ALL_STROKES[::-1]:
            if stroke not in LAMPS[1]:
                field(0, stroke)
            field(1, stroke)
        self.assertEqual(rows_of(field, 2), [ALL_STROKES, ALL_STROKES])
        self.assertEqual(len(field), 97 + 99)
        self.assertEqual(field.seen, [None, None])

    def test_no_cells(self):
        field = Field(DESK, [4, 5])
        for cell in [-1, -2, -3, 3, 4, 99, HUGE, -HUGE]:
            for stroke in [1, 3, 0, 100, HUGE]:
                self.assert_stays(field, 3, InvalidCell, cell, field, cell, stroke)
            self.assert_stays(field, 3, InvalidCell, cell, field.strokes, cell)
            self.assert_stays(field, 3, InvalidCell, cell, field.strokes, cell=cell)

    def test_no_strokes(self):
        field = Field(DESK, [4, 5])
        for stroke in NO_STROKES:
            for cell in range(3):
                self.assert_stays(field, 3, InvalidStroke, stroke, field, cell, stroke)

    def test_strokes_that_stand(self):
        field = Field(DESK, [4, 5])
        field(2, 99)
        field(0, 3)
        field(0, 8)
        for cell, strokes in enumerate([LAMPS[5] + [3, 8], LAMPS[4], [99]]):
            for stroke in strokes:
                self.assert_stays(field, 3, StrokeStands, stroke, field, cell, stroke)
                self.assert_stays(field, 3, StrokeStands, stroke, field, stroke=stroke, cell=cell)
        field.undo()
        field(0, 8)
        self.assert_stays(field, 3, StrokeStands, 8, field, 0, 8)
        self.assertIsNone(field(1, 8))

    def test_what_is_returned_is_new(self):
        field = Field(Desk(LAMP_STYLE, [], free=1), [1, 7])
        field.write([(0, 4), (2, 3)])
        before = state(field, 3)
        for call in [lambda: field.strokes(0), lambda: field.strokes(1), lambda: field.strokes(2), lambda: field.seen]:
            told, again = call(), call()
            self.assertIsInstance(told, list)
            self.assertIsNot(told, again)
            told.append(5)
            again.clear()
        self.assertEqual(state(field, 3), before)
        self.assertEqual(LAMP_STYLE, Style(LAMPS))

    def test_fields_of_one_desk_stand_by_themselves(self):
        one, other = Field(DESK, [4, 5]), Field(DESK, [4, 5])
        one(0, 3)
        self.assertEqual((one.seen, other.seen, len(other)), ([4, 9], [4, 5], 0))
        self.assertEqual(DESK, Desk(Style(LAMPS), [NINE], free=1))


class WriteTest(FieldCase):
    def setUp(self):
        self.field = Field(DESK, [4, 5])
        self.field(2, 3)

    def test_all(self):
        self.assertIsNone(self.field.write(rows=[(2, 6), (0, 3), (1, 7), (1, 1)]))
        self.assertEqual(rows_of(self.field, 3), [LAMPS[9], LAMPS[9], LAMPS[1]])
        self.assertEqual((self.field.seen, len(self.field)), ([1, 9, 9], 5))

    def test_none(self):
        before = state(self.field, 3)
        self.assertIsNone(self.field.write([]))
        self.assertEqual(state(self.field, 3), before)

    def test_an_error_at_each_place(self):
        good = [(0, 3), (1, 1), (1, 7), (2, 6)]
        wrong = [
            ((3, 1), InvalidCell, 3), ((-1, 1), InvalidCell, -1), ((HUGE, 0), InvalidCell, HUGE),
            ((0, 0), InvalidStroke, 0), ((2, 100), InvalidStroke, 100), ((1, -HUGE), InvalidStroke, -HUGE),
            ((0, 1), StrokeStands, 1), ((2, 3), StrokeStands, 3), ((1, 2), StrokeStands, 2),
        ]
        for row, error, value in wrong:
            for at in range(len(good) + 1):
                rows = good[:at] + [row] + good[at:]
                before = copied(rows)
                self.assert_stays(self.field, 3, error, value, self.field.write, rows)
                self.assertEqual(rows, before)
        self.assertEqual(self.field.strokes(0), LAMPS[5])

    def test_the_first_error(self):
        wrong = [((3, 0), InvalidCell, 3), ((0, 100), InvalidStroke, 100), ((0, 1), StrokeStands, 1)]
        for row, error, value in wrong:
            for other, _, _ in wrong:
                self.assert_stays(self.field, 3, error, value, self.field.write, [(0, 3), row, other])

    def test_a_stroke_twice(self):
        self.assert_stays(self.field, 3, StrokeStands, 8, self.field.write, [(0, 8), (0, 8)])
        self.assert_stays(self.field, 3, StrokeStands, 8, self.field.write, [(1, 8), (0, 8), (2, 8), (0, 8), (5, 5)])
        self.field.write([(0, 8), (1, 8), (2, 8)])
        self.assertEqual([8 in self.field.strokes(cell) for cell in range(3)], [True, True, True])

    def test_behind_an_error(self):
        self.assert_stays(self.field, 3, StrokeStands, 1, self.field.write, [(0, 3), (0, 1)])
        self.field.write([(0, 3), (2, 6)])
        self.field.undo()
        self.assertEqual(rows_of(self.field, 3), [LAMPS[9], LAMPS[4], [3]])

    def test_the_passed_list_is_not_kept(self):
        rows = [(0, 3), (1, 1)]
        self.field.write(rows)
        self.assertEqual(rows, [(0, 3), (1, 1)])
        rows.append((1, 7))
        rows[0] = (0, 9)
        self.assertEqual(rows_of(self.field, 3), [LAMPS[9], sorted(LAMPS[4] + [1]), [3]])
        self.assertEqual(len(self.field), 3)
        self.field(0, 8)
        self.assertEqual(rows, [(0, 9), (1, 1), (1, 7)])

    def test_many_strokes(self):
        field = Field(Desk(LAMP_STYLE, [], free=3), [1])
        rows = [(3, stroke) for stroke in ALL_STROKES] + [(0, 1)]
        field.write(rows)
        self.assertEqual((len(field), field.strokes(3)), (100, ALL_STROKES))
        self.assert_stays(field, 4, StrokeStands, 1, field.write, [(1, 5), (0, 1)])
        for many in range(99, -1, -1):
            field.undo()
            self.assertEqual(len(field), many)
        self.assertEqual(field, Field(Desk(LAMP_STYLE, [], free=3), [1]))


class UndoTest(FieldCase):
    def test_one_by_one(self):
        field = Field(DESK, [4, 5])
        states = [state(field, 3)]
        for cell, stroke in [(0, 3), (1, 1), (2, 9), (1, 7), (2, 3)]:
            field(cell, stroke)
            states.append(state(field, 3))
        while len(states) > 1:
            self.assertEqual(state(field, 3), states.pop())
            self.assertIsNone(field.undo())
        self.assertEqual(state(field, 3), states[0])
        for _ in range(3):
            self.assert_stays(field, 3, NothingToUndo, 0, field.undo)

    def test_nothing_was_added(self):
        for desk, amount in [(DESK, [9]), (Desk(BAR_STYLE, [], free=None), [1])]:
            field = Field(desk, amount)
            self.assert_stays(field, 2, NothingToUndo, 0, field.undo)
            field.write([])
            self.assert_stays(field, 2, NothingToUndo, 0, field.undo)

    def test_behind_write(self):
        field = Field(DESK, [4, 5])
        field(2, 8)
        field.write([(0, 3), (1, 1), (1, 7)])
        for many, seen in [(4, [None, 9, 9]), (3, [None, None, 9]), (2, [None, 4, 9]), (1, [None, 4, 5])]:
            self.assertEqual((len(field), field.seen), (many, seen))
            field.undo()
        self.assertEqual((len(field), field.seen), (0, [4, 5]))
        self.assert_stays(field, 3, NothingToUndo, 0, field.undo)

    def test_behind_errors(self):
        field = Field(DESK, [4, 5])
        self.assert_fails(InvalidCell, 7, field, 7, 1)
        self.assert_fails(StrokeStands, 1, field.write, [(0, 3), (0, 1)])
        self.assert_stays(field, 3, NothingToUndo, 0, field.undo)

    def test_often(self):
        field = Field(DESK, [4, 5])
        for _ in range(4):
            field.write([(cell, stroke) for cell in range(2) for stroke in range(8, 58)])
            for _ in range(100):
                field.undo()
        self.assertEqual(field, Field(DESK, [4, 5]))
        self.assertEqual(field.seen, [4, 5])


class SeenTest(FieldCase):
    def test_strokes_of_no_figure(self):
        field = Field(Desk(LAMP_STYLE, [], free=2), [1, 7])
        field(1, 2)
        self.assertEqual(field.seen, [None, 7])
        field(0, 8)
        self.assertEqual(field.seen, [None, None])
        field(1, 4)
        self.assertEqual(field.seen, [4, None])

    def test_blank_cells_behind_the_first_one(self):
        field = Field(Desk(LAMP_STYLE, [], free=3), [8])
        field(3, 3)
        self.assertEqual(field.seen, [None, None, None, 8])
        field(3, 6)
        self.assertEqual(field.seen, [1, None, None, 8])
        field.write([(1, stroke) for stroke in LAMPS[0]])
        self.assertEqual(field.seen, [1, None, 0, 8])
        field.undo()
        self.assertEqual(field.seen, [1, None, None, 8])

    def test_a_figure_that_is_0_ahead(self):
        desk = Desk(LAMP_STYLE, [], free=2)
        field = Field(desk, [7])
        field.write([(1, stroke) for stroke in LAMPS[0]])
        self.assertEqual((field.seen, field.shows_unseen), ([0, 7], False))
        field.write([(2, 3), (2, 6)])
        self.assertEqual((field.seen, field.shows_unseen), ([1, 0, 7], True))
        field = Field(Desk(FEW_STYLE, [], free=1), [1])
        field.write([(0, 2), (1, 11)])
        self.assertEqual((field.seen, field.shows_unseen), ([0, 7], False))
        # 0 can become nothing else here, and no blank cell stands ahead of it.
        self.assertIsNone(field.left())

    def test_the_same_amount(self):
        for desk in [Desk(LAMP_STYLE, []), Desk(LAMP_STYLE, [], free=None), DESK]:
            field = Field(desk, [9])
            self.assertEqual((field.seen, field.shows_unseen), ([9], False))

    def shown(self, desk, amount, altered):
        """Whether a field shows an unseen alteration when it is written over an amount."""
        field = Field(desk, amount)
        before = [None] * (len(altered) - len(amount)) + amount
        for cell, (figure, other) in enumerate(zip(before[::-1], altered[::-1])):
            standing = [] if figure is None else desk.style[figure]
            field.write([(cell, stroke) for stroke in desk.style[other] if stroke not in standing])
        self.assertEqual(field.seen, altered)
        self.assertIs(field.shows_unseen, is_unseen(desk, amount, altered))
        return field.shows_unseen

    def test_checks(self):
        plain = Desk(LAMP_STYLE, [], free=1)
        for checks, expected in [
            ([], [True, True, True]), ([NINE], [True, False, False]), ([COUNT], [True, True, False]),
            ([("copy", LAMP_STYLE)], [True, True, True]), ([("copy", STAIR_STYLE)], [True, True, True]),
            ([("copy", BAR_STYLE)], [False, False, False]), ([("copy", Style(LAMPS[::-1]))], [False, False, False]),
            ([("rest", 5, [1, 0])], [False, True, True]), ([("rest", 5, [1, 0]), COUNT], [False, True, False]),
            ([("rest", 2, [0, 1])], [False, False, False]), ([("rest", 2, [0, 1, 1])], [False, False, True]),
        ]:
            told = [self.shown(plain.with_checks(checks), [4, 5], row) for row in [[9, 9], [9, 5], [1, 9, 9]]]
            self.assertEqual(told, expected)

    def test_limits(self):
        plain = Desk(LAMP_STYLE, [], free=1)
        for most, expected in [(1, [True, False, True]), (2, [True, True, True]), (None, [True, True, True])]:
            desk = plain.with_limits(free=1, most=most, raised=False)
            told = [self.shown(desk, [9, 5], altered) for altered in [[8, 5], [8, 9], [1, 9, 5]]]
            self.assertEqual(told, expected)
            desk = plain.with_limits(free=None, most=most, raised=True)
            told = [self.shown(desk, [9, 5], altered) for altered in [[8, 5], [8, 9], [1, 9, 5]]]
            self.assertEqual(told, [False, False, True])


class EqualTest(unittest.TestCase):
    def assert_equal(self, one, other, expected):
        self.assertIs(one == other, expected)
        self.assertIs(other == one, expected)
        self.assertIs(one != other, not expected)

    def field(self, rows, amount=(4, 5), desk=DESK):
        made = Field(desk, list(amount))
        made.write(rows)
        return made

    def test_rows_of_strokes(self):
        rows = [(0, 3), (1, 1), (1, 7)]
        field = self.field(rows)
        one_by_one = self.field([])
        for cell, stroke in rows:
            self.assert_equal(field, one_by_one, False)
            one_by_one(cell, stroke)
        self.assert_equal(field, one_by_one, True)
        self.assert_equal(field, field, True)
        for other in [rows[:2], rows[::-1], [rows[0], rows[2], rows[1]], rows + [(2, 1)], [], [(0, 3), (1, 1), (1, 8)]]:
            self.assert_equal(field, self.field(other), False)

    def test_behind_undo(self):
        field, other = self.field([(0, 3), (1, 1)]), self.field([(0, 3)])
        self.assert_equal(field, other, False)
        field.undo()
        self.assert_equal(field, other, True)
        other.undo()
        self.assert_equal(field, other, False)
        field.undo()
        self.assert_equal(field, other, True)
        self.assert_equal(field, self.field([]), True)

    def test_desks_and_amounts(self):
        field = self.field([])
        self.assert_equal(field, self.field([], desk=Desk(Style(LAMPS), [("rest", 9, [1])], free=1)), True)
        for desk in [
            Desk(FEW_STYLE, [NINE], free=1), Desk(LAMP_STYLE, [], free=1), Desk(LAMP_STYLE, [NINE]),
            Desk(LAMP_STYLE, [NINE], free=1, most=1), Desk(LAMP_STYLE, [NINE], free=1, raised=True),
            Desk(LAMP_STYLE, [NINE], free=None), Desk(LAMP_STYLE, [NINE, COUNT], free=1),
        ]:
            self.assert_equal(field, self.field([], desk=desk), False)
        for amount in [[5, 4], [9], [4, 5, 0], [9, 9]]:
            self.assert_equal(field, self.field([], amount), False)
        # Cells with the same strokes, and the same figures read in them.
        self.assert_equal(self.field([(0, 3), (1, 1), (1, 7)]), self.field([], [9, 9]), False)

    def test_things_that_are_no_field(self):
        field = self.field([(0, 3)])
        things = [None, True, 0, 1, "field", [4, 5], [(0, 3)], (DESK, [4, 5]), {}, DESK, LAMP_STYLE, Field, Strange()]
        for other in things:
            self.assert_equal(field, other, False)


if __name__ == "__main__":
    unittest.main()
