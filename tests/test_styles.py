import unittest

from addedink.desks import Desk
from addedink.errors import DoubleShape, EmptyShape, InkError, InvalidFigure, InvalidStroke
from addedink.styles import Style

from tests.samples import BARS, FEW, LAMPS, NO_FIGURES, NO_STROKES, STAIRS, Strange, copied, lists_of, with_shape

SAMPLES = [LAMPS, BARS, FEW, STAIRS, STAIRS[::-1]]


class StyleCase(unittest.TestCase):
    def assert_fails(self, error, value, call, *rest, **more):
        with self.assertRaises(InkError) as context:
            call(*rest, **more)
        self.assertIs(type(context.exception), error)
        self.assertEqual(context.exception.value, value)


class DocumentTest(unittest.TestCase):
    def test_lamps(self):
        lamps = Style(LAMPS)
        told = [
            lamps.becomes(1), lamps.becomes(4), lamps.becomes(8),
            lamps.becomes(None) == [0, 1, 2, 3, 4, 5, 6, 7, 8, 9],
            lamps.cost(1, 7), lamps.cost(7, 1), lamps.cost(None, 4), lamps[7],
        ]
        self.assertEqual(told, [[0, 3, 4, 7, 8, 9], [8, 9], [], True, 1, None, 4, [1, 3, 6]])

    def test_bars(self):
        lamps, bars = Style(LAMPS), Style(BARS)
        told = [bars.within(lamps), lamps.within(bars), lamps.redrawn(7, [1, 3, 6, 8]).becomes(7), lamps == bars]
        self.assertEqual(told, [True, False, [], False])


class ShapesTest(StyleCase):
    def test_shapes_are_ascending_each_stroke_once(self):
        for shapes in SAMPLES:
            told = [shape[::-1] + shape + shape[:1] for shape in shapes]
            self.assertEqual(Style(told).shapes, [sorted(shape) for shape in shapes])

    def test_strokes_are_sorted_as_numbers(self):
        self.assertEqual(Style(with_shape(BARS, 0, [99, 9, 1, 30, 3, 9])).shapes[0], [1, 3, 9, 30, 99])

    def test_by_name(self):
        self.assertEqual(Style(shapes=LAMPS), Style(LAMPS))

    def test_first_and_last_stroke(self):
        style = Style(with_shape(BARS, 9, [1, 99]))
        self.assertEqual(style[9], [1, 99])

    def test_item_is_the_shape(self):
        for shapes in SAMPLES:
            style = Style(shapes)
            for figure in range(10):
                self.assertEqual(style[figure], sorted(shapes[figure]))

    def test_item_of_no_figure(self):
        style = Style(LAMPS)
        for figure in NO_FIGURES:
            self.assert_fails(InvalidFigure, figure, lambda: style[figure])

    def test_no_shape_is_kept(self):
        told = copied(LAMPS)
        style = Style(told)
        told[0].append(9)
        told[1] = [50]
        told.reverse()
        self.assertEqual(style.shapes, LAMPS)
        self.assertEqual(style.becomes(1), [0, 3, 4, 7, 8, 9])

    def test_what_is_returned_is_new(self):
        style = Style(LAMPS)
        found = style.shapes
        self.assertEqual(len({id(part) for part in lists_of(found) + lists_of(style.shapes)}), 22)
        found[0].append(9)
        found.pop()
        style[1].append(9)
        style.becomes(1).append(5)
        style.becomes(None).clear()
        self.assertEqual(style.shapes, LAMPS)
        self.assertEqual(style[1], [3, 6])
        self.assertEqual(style.becomes(1), [0, 3, 4, 7, 8, 9])
        self.assertEqual(style.becomes(None), list(range(10)))

    def test_nothing_passed_is_modified(self):
        told = [shape[::-1] + shape for shape in LAMPS]
        before = copied(told)
        style = Style(told)
        strokes = [9, 8, 9]
        style.redrawn(0, strokes)
        self.assertEqual((told, strokes), (before, [9, 8, 9]))


class ShapeErrorsTest(StyleCase):
    def test_no_stroke(self):
        for figure in range(10):
            for stroke in NO_STROKES:
                self.assert_fails(InvalidStroke, stroke, Style, with_shape(LAMPS, figure, [1, stroke]))

    def test_the_first_no_stroke_in_the_order_of_the_list(self):
        self.assert_fails(InvalidStroke, 100, Style, with_shape(LAMPS, 3, [7, 100, 0, -1]))
        self.assert_fails(InvalidStroke, 0, Style, with_shape(LAMPS, 3, [0, 100, 0, -1]))

    def test_no_strokes(self):
        for figure in range(10):
            self.assert_fails(EmptyShape, figure, Style, with_shape(LAMPS, figure, []))

    def test_the_same_strokes(self):
        for figure in range(1, 10):
            self.assert_fails(DoubleShape, figure, Style, with_shape(BARS, figure, [10]))
        self.assert_fails(DoubleShape, 8, Style, with_shape(LAMPS, 8, [6, 3, 3, 6]))
        self.assert_fails(DoubleShape, 1, Style, with_shape(LAMPS, 0, [6, 3]))

    def test_part_of_the_strokes_are_not_the_same(self):
        self.assertEqual(Style(STAIRS).shapes, STAIRS)

    def test_figure_by_figure(self):
        doubled = with_shape(BARS, 1, [10])
        self.assert_fails(DoubleShape, 1, Style, with_shape(doubled, 2, []))
        self.assert_fails(DoubleShape, 1, Style, with_shape(doubled, 2, [0]))
        empty = with_shape(BARS, 4, [])
        self.assert_fails(EmptyShape, 4, Style, with_shape(empty, 5, [100]))
        self.assert_fails(EmptyShape, 4, Style, with_shape(empty, 5, [10]))
        self.assert_fails(EmptyShape, 4, Style, with_shape(empty, 5, []))
        wrong = with_shape(BARS, 6, [100])
        self.assert_fails(InvalidStroke, 100, Style, with_shape(wrong, 7, [101]))
        self.assert_fails(InvalidStroke, 100, Style, with_shape(wrong, 7, []))
        self.assert_fails(InvalidStroke, 100, Style, with_shape(wrong, 7, [10]))

    def test_two_empty_figures_are_empty_not_double(self):
        self.assert_fails(EmptyShape, 0, Style, [[] for figure in range(10)])

    def test_of_one_figure_the_stroke_comes_first(self):
        # Figure 1 would have the strokes of figure 0 if its wrong stroke were left out.
        self.assert_fails(InvalidStroke, 0, Style, with_shape(BARS, 1, [10, 0]))
        self.assert_fails(InvalidStroke, 0, Style, with_shape(BARS, 1, [0]))


class BecomesTest(StyleCase):
    def test_all_figures(self):
        for shapes in SAMPLES:
            style = Style(shapes)
            for figure in range(10):
                greater = [other for other in range(10) if set(shapes[figure]) < set(shapes[other])]
                self.assertEqual(style.becomes(figure), greater)
                self.assertEqual(style.becomes(figure=figure), greater)

    def test_blank_cell(self):
        for shapes in SAMPLES:
            self.assertEqual(Style(shapes).becomes(None), list(range(10)))
            self.assertEqual(Style(shapes).becomes(figure=None), list(range(10)))

    def test_no_figure(self):
        for figure in NO_FIGURES:
            self.assert_fails(InvalidFigure, figure, Style(LAMPS).becomes, figure)


class CostTest(StyleCase):
    def test_all_figures(self):
        for shapes in SAMPLES:
            style = Style(shapes)
            for figure in range(10):
                for other in range(10):
                    before, after = set(shapes[figure]), set(shapes[other])
                    price = len(after - before) if before <= after else None
                    self.assertEqual(style.cost(figure, other), price)
                    self.assertEqual(style.cost(other=other, figure=figure), price)

    def test_duplicates_are_counted_once(self):
        style = Style(with_shape(with_shape(BARS, 0, [1, 1, 1]), 1, [2, 1, 2, 3, 1]))
        self.assertEqual([style.cost(0, 1), style.cost(None, 1), style.cost(None, 0)], [2, 3, 1])

    def test_a_figure_stays_without_strokes(self):
        for figure in range(10):
            price = Style(LAMPS).cost(figure, figure)
            self.assertIs(type(price), int)
            self.assertEqual(price, 0)

    def test_blank_cell(self):
        for shapes in SAMPLES:
            for other in range(10):
                self.assertEqual(Style(shapes).cost(None, other), len(shapes[other]))
                self.assertEqual(Style(shapes).cost(figure=None, other=other), len(shapes[other]))

    def test_no_figure(self):
        style = Style(LAMPS)
        for figure in NO_FIGURES:
            self.assert_fails(InvalidFigure, figure, style.cost, figure, 1)
            self.assert_fails(InvalidFigure, figure, style.cost, 1, figure)
            self.assert_fails(InvalidFigure, figure, style.cost, None, figure)

    def test_the_first_figure_comes_first(self):
        style = Style(LAMPS)
        self.assert_fails(InvalidFigure, 10, style.cost, 10, -1)
        self.assert_fails(InvalidFigure, -1, style.cost, -1, 10)
        self.assert_fails(InvalidFigure, -1, style.cost, other=10, figure=-1)


class WithinTest(StyleCase):
    def test_both_directions(self):
        lamps, bars, few = Style(LAMPS), Style(BARS), Style(FEW)
        self.assertIs(bars.within(lamps), True)
        self.assertIs(lamps.within(bars), False)
        self.assertIs(few.within(lamps), True)
        self.assertIs(lamps.within(few), False)
        self.assertIs(lamps.within(other=lamps), True)
        self.assertIs(lamps.within(other=bars), False)

    def test_neither_direction(self):
        up, down = Style(STAIRS), Style(STAIRS[::-1])
        self.assertEqual([up.within(down), down.within(up)], [False, False])

    def test_other_strokes_for_the_same_pairs(self):
        lamps = Style(LAMPS)
        moved = Style([[stroke + 50 for stroke in shape] for shape in LAMPS])
        self.assertEqual([lamps.within(moved), moved.within(lamps), lamps == moved], [True, True, False])

    def test_one_pair_is_enough(self):
        lamps = Style(LAMPS)
        fewer = lamps.redrawn(7, [1, 3, 6, 8])
        self.assertEqual([fewer.within(lamps), lamps.within(fewer)], [True, False])

    def test_all_pairs_of_samples(self):
        styles = [Style(shapes) for shapes in SAMPLES]
        for style in styles:
            for other in styles:
                pairs = [(a, b) for a in range(10) for b in style.becomes(a)]
                self.assertIs(style.within(other), all(b in other.becomes(a) for a, b in pairs))


class RedrawnTest(StyleCase):
    def test_other_strokes(self):
        lamps = Style(LAMPS)
        redrawn = lamps.redrawn(7, [8, 1, 6, 3, 8])
        self.assertEqual(redrawn.shapes, with_shape(LAMPS, 7, [1, 3, 6, 8]))
        self.assertEqual(redrawn, Style(with_shape(LAMPS, 7, [1, 3, 6, 8])))
        self.assertEqual(lamps.shapes, LAMPS)
        self.assertIsInstance(redrawn, Style)

    def test_by_name(self):
        lamps = Style(LAMPS)
        self.assertEqual(lamps.redrawn(strokes=[50], figure=0).shapes, with_shape(LAMPS, 0, [50]))

    def test_its_own_strokes(self):
        lamps = Style(LAMPS)
        for figure in range(10):
            self.assertEqual(lamps.redrawn(figure, LAMPS[figure]), lamps)

    def test_no_stroke_list_is_kept(self):
        strokes = [8, 1]
        redrawn = Style(LAMPS).redrawn(7, strokes)
        strokes.append(2)
        self.assertEqual(redrawn[7], [1, 8])

    def test_no_figure_comes_first(self):
        lamps = Style(LAMPS)
        for figure in NO_FIGURES:
            self.assert_fails(InvalidFigure, figure, lamps.redrawn, figure, [50])
            self.assert_fails(InvalidFigure, figure, lamps.redrawn, figure, [])
            self.assert_fails(InvalidFigure, figure, lamps.redrawn, figure, [0])
            self.assert_fails(InvalidFigure, figure, lamps.redrawn, figure, [3, 6])

    def test_errors_of_the_new_shapes(self):
        lamps = Style(LAMPS)
        for stroke in NO_STROKES:
            self.assert_fails(InvalidStroke, stroke, lamps.redrawn, 4, [1, stroke])
        self.assert_fails(InvalidStroke, 100, lamps.redrawn, 4, [100, 0])
        self.assert_fails(EmptyShape, 4, lamps.redrawn, 4, [])
        self.assertEqual(lamps.shapes, LAMPS)

    def test_double_shape_has_the_later_figure(self):
        lamps = Style(LAMPS)
        for figure in range(10):
            for other in range(10):
                if other != figure:
                    later = max(figure, other)
                    self.assert_fails(DoubleShape, later, lamps.redrawn, figure, LAMPS[other][::-1])


class EqualStylesTest(unittest.TestCase):
    def test_equal(self):
        shuffled = Style([shape[::-1] * 2 for shape in LAMPS])
        self.assertIs(Style(LAMPS) == shuffled, True)
        self.assertIs(Style(LAMPS) != shuffled, False)

    def test_unequal(self):
        swapped = Style([LAMPS[1], LAMPS[0]] + LAMPS[2:])
        for other in [Style(BARS), swapped, Style(LAMPS).redrawn(7, [1, 3, 6, 8])]:
            self.assertIs(Style(LAMPS) == other, False)
            self.assertIs(Style(LAMPS) != other, True)

    def test_things_that_are_no_style(self):
        lamps = Style(LAMPS)
        for other in [None, True, 0, "lamps", LAMPS, (lamps,), [lamps], {}, Desk(lamps, []), Style, Strange()]:
            self.assertIs(lamps == other, False)
            self.assertIs(other == lamps, False)
            self.assertIs(lamps != other, True)
            self.assertIs(other != lamps, True)


if __name__ == "__main__":
    unittest.main()
