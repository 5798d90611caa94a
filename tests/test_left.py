"""How many further strokes a field needs, and what it shows, against the definitions."""

import random
import unittest

from addedink.amounts import price
from addedink.desks import Desk
from addedink.fields import Field
from addedink.styles import Style
from addedink.unseen import least_price, unseen_alterations

from tests import reference
from tests.samples import BARS, FEW, LAMPS, STAIRS

LAMP_STYLE = Style(LAMPS)
BAR_STYLE = Style(BARS)
FEW_STYLE = Style(FEW)
STAIR_STYLE = Style(STAIRS)
NINE = ("rest", 9, [1])
COUNT = ("count",)


def blanks_of(desk):
    return 3 if desk.free is None else desk.free


def standing(desk, amount, added):
    """The strokes of each cell, from cell 0 on, as sets."""
    cells = [set(desk.style[figure]) for figure in amount[::-1]] + [set() for _ in range(blanks_of(desk))]
    for cell, stroke in added:
        cells[cell].add(stroke)
    return cells


def seen_in(desk, cells):
    figures = {tuple(shape): figure for figure, shape in enumerate(desk.style.shapes)}
    told = [figures.get(tuple(sorted(strokes))) for strokes in cells]
    while not cells[len(told) - 1]:
        told.pop()
    return told[::-1]


def shows(desk, amount, cells):
    told = seen_in(desk, cells)
    return None not in told and told[0] != 0 and reference.unseen(desk, amount, told)


def fewest(desk, ways, cells):
    """The least number of further strokes for one of some alterations, None if none can be shown."""
    found = []
    for altered in ways:
        targets = [set(desk.style[figure]) for figure in altered[::-1]]
        targets += [set() for _ in range(len(cells) - len(targets))]
        if all(strokes <= target for strokes, target in zip(cells, targets)):
            found.append(sum(len(target - strokes) for strokes, target in zip(cells, targets)))
    return min(found, default=None)


def left(desk, amount, rows=()):
    field = Field(desk, amount)
    field.write(list(rows))
    return field.left()


class LeftTest(unittest.TestCase):
    def test_it_shows_one(self):
        field = Field(Desk(FEW_STYLE, []), [1, 2])
        self.assertEqual((field.left(), field.shows_unseen), (1, False))
        field(1, 2)
        self.assertEqual((field.left(), field.shows_unseen), (0, True))
        self.assertIs(type(field.left()), int)

    def test_there_is_none(self):
        for desk, amount in [
            (Desk(BAR_STYLE, []), [1]), (Desk(BAR_STYLE, [COUNT], free=3), [1]), (Desk(FEW_STYLE, []), [7]),
            (Desk(LAMP_STYLE, [NINE], most=1), [4, 5]), (Desk(LAMP_STYLE, [], raised=True), [9]),
            (Desk(LAMP_STYLE, [("copy", BAR_STYLE)]), [4, 5]), (Desk(FEW_STYLE, [("rest", 2, [1, 0]), NINE]), [3, 6]),
        ]:
            self.assertIsNone(left(desk, amount))

    def test_blank_cells(self):
        # 8 stays, since all its strokes are drawn, and a 1 is put ahead.
        self.assertEqual(left(Desk(LAMP_STYLE, [], free=1), [8]), 2)
        self.assertEqual(left(Desk(LAMP_STYLE, [], free=None), [8]), 2)
        self.assertIsNone(left(Desk(LAMP_STYLE, [COUNT], free=1), [8]))
        # A 9 ahead, or a 1 ahead of an 8.
        self.assertEqual(left(Desk(LAMP_STYLE, [NINE], free=1, most=1), [9]), 6)
        self.assertEqual(left(Desk(LAMP_STYLE, [NINE], free=1), [9]), 3)
        self.assertEqual(left(Desk(LAMP_STYLE, [NINE], free=1), [9], [(1, 1)]), 5)
        # An 8 directly ahead; a 2 further left, with a 0 or an 8 between; nothing makes up for a 3.
        eight = Desk(BAR_STYLE, [("rest", 8, [1, 1, 4])], free=2)
        self.assertEqual(left(eight, [8]), 1)
        self.assertEqual(left(eight, [8], [(2, 12)]), 1)
        self.assertIsNone(left(eight, [8], [(1, 13)]))

    def test_no_blank_cell_is_free(self):
        self.assertIsNone(left(Desk(BAR_STYLE, [], free=0), [8]))
        self.assertEqual(left(Desk(BAR_STYLE, [], free=1), [8]), 1)

    def test_blank_cells_where_the_desk_sets_no_limit(self):
        # Each cell ahead is needed: without a limit there are three.
        weights = [("rest", 8, [0, 1, 2])]
        desk = Desk(BAR_STYLE, weights, free=None)
        self.assertEqual(left(desk, [5], [(3, 11)]), 2)
        self.assertEqual(left(desk, [5], [(3, 11), (2, 13)]), 1)
        self.assertIsNone(left(desk, [5], [(3, 11), (2, 13), (1, 13)]))
        self.assertEqual(left(desk, [5], [(3, 11), (2, 13), (1, 12)]), 0)

    def test_strokes_of_no_figure(self):
        for rows in [[(0, 8)], [(1, 99)], [(2, 50)], [(0, 8), (1, 1), (1, 7), (0, 3)]]:
            self.assertIsNone(left(Desk(LAMP_STYLE, [], free=1), [4, 5], rows))

    def test_strokes_that_are_taken_back(self):
        field = Field(Desk(LAMP_STYLE, [NINE], free=1), [4, 5])
        for cell, stroke, expected in [(2, 50, None), (2, 3, 5), (1, 8, None), (0, 3, 2), (1, 1, 1)]:
            before = field.left()
            field(cell, stroke)
            self.assertEqual(field.left(), expected)
            if cell == 2 or stroke == 8:
                field.undo()
                self.assertEqual(field.left(), before)

    def test_a_blank_cell_with_strokes_must_become_a_figure(self):
        desk = Desk(LAMP_STYLE, [], free=2)
        self.assertEqual(left(desk, [1]), 1)
        self.assertEqual(left(desk, [1], [(1, 3)]), 1)
        self.assertEqual(left(desk, [1], [(2, 3)]), 3)
        self.assertEqual(left(desk, [1], [(1, 2), (1, 5)]), 4)

    def test_zero_ahead(self):
        desk = Desk(LAMP_STYLE, [], free=2)
        rows = [(1, stroke) for stroke in LAMPS[0]]
        self.assertEqual(left(desk, [8], rows), 1)
        self.assertEqual(left(desk, [8], rows + [(2, 3)]), 1)
        self.assertEqual(left(desk, [8], rows + [(2, 3), (2, 6)]), 0)
        self.assertIsNone(left(Desk(Style([LAMPS[0] + [8]] + LAMPS[1:]), [], free=1), [8], rows + [(1, 8)]))

    def test_copies_bar_but_do_not_count(self):
        plain = Desk(FEW_STYLE, [])
        self.assertEqual(left(plain, [1]), 1)
        # In the copy, 1 needs eight strokes to become 7.
        long = Style([[20], [1], [12], [13], [14], [15], [16], [1, 2, 3, 4, 5, 6, 7, 8, 9], [17], [18]])
        self.assertEqual(left(plain.with_checks([("copy", long)]), [1]), 1)
        self.assertEqual(price(plain.with_checks([("copy", long)]), [1], [7]), 9)
        self.assertEqual(left(Desk(long, [("copy", FEW_STYLE)]), [1]), 8)
        self.assertIsNone(left(plain.with_checks([("copy", BAR_STYLE)]), [1]))
        # The cheapest figure is barred by the copy: 1 becomes 7 in one stroke, and 3 in three.
        self.assertEqual(left(Desk(LAMP_STYLE, []), [1]), 1)
        stairs = Desk(LAMP_STYLE, [("copy", Style(LAMPS[:7] + [[50]] + LAMPS[8:]))])
        self.assertEqual(left(stairs, [1]), 2)

    def test_limits(self):
        desk = Desk(LAMP_STYLE, [NINE])
        self.assertEqual(left(desk, [4, 5]), 3)
        self.assertEqual(left(desk.with_limits(free=0, most=2, raised=True), [4, 5]), 3)
        self.assertIsNone(left(desk.with_limits(free=0, most=1, raised=False), [4, 5]))
        self.assertIsNone(left(desk.with_limits(free=0, most=None, raised=True), [9, 0, 0]))

    def test_against_all_alterations_of_an_amount(self):
        found = {}
        for desk in reference.random_desks(61, 150, frees=(0, 1, 2)):
            for amount in reference.amounts_up_to(1):
                if reference.good(desk, amount):
                    ways = unseen_alterations(desk, amount)
                    cells = standing(desk, amount, [])
                    expected = fewest(desk, ways, cells)
                    self.assertEqual(left(desk, amount), expected)
                    found[expected] = found.get(expected, 0) + 1
                    if expected is not None and not [check for check in desk.checks if check[0] == "copy"]:
                        self.assertGreaterEqual(expected, least_price(desk))
        self.assertGreater(len(found), 4)


class RandomTest(unittest.TestCase):
    def chosen_stroke(self, source, desk, ways, cells):
        """A cell and a stroke that does not stand there, often one of an unseen alteration."""
        if ways and source.random() < 0.85:
            targets = [desk.style[figure] for figure in source.choice(ways)[::-1]]
            missing = [
                (cell, stroke) for cell, target in enumerate(targets) for stroke in target if stroke not in cells[cell]
            ]
            if missing:
                return source.choice(missing)
        cell = source.randrange(len(cells))
        return (cell, source.choice([stroke for stroke in range(1, 30) if stroke not in cells[cell]]))

    def assert_told(self, field, desk, amount, ways, added):
        cells = standing(desk, amount, added)
        self.assertEqual([field.strokes(cell) for cell in range(len(cells))], [sorted(strokes) for strokes in cells])
        self.assertEqual(field.seen, seen_in(desk, cells))
        shown = shows(desk, amount, cells)
        self.assertIs(field.shows_unseen, shown)
        told = field.left()
        self.assertEqual(told, fewest(desk, ways, cells))
        self.assertIs(told == 0, shown)
        self.assertEqual(len(field), len(added))
        return told

    def test_strokes_one_by_one(self):
        source = random.Random(62)
        counts = {"none": 0, "shown": 0, "some": 0}
        for desk in reference.random_desks(63, 160, frees=(0, 1, 1, 2, 3, None)):
            blanks = blanks_of(desk)
            amounts = [amount for amount in reference.amounts_up_to(min(3, 4 - blanks)) if reference.good(desk, amount)]
            amount = source.choice(amounts)
            ways = reference.all_unseen(desk, amount, blanks)
            field, added = Field(desk, amount), []
            for _ in range(12):
                told = self.assert_told(field, desk, amount, ways, added)
                counts["none" if told is None else "some" if told else "shown"] += 1
                if added and (told is None or source.random() < 0.15):
                    field.undo()
                    added.pop()
                else:
                    row = self.chosen_stroke(source, desk, ways, standing(desk, amount, added))
                    field(*row)
                    added.append(row)
        self.assertGreater(min(counts.values()), 50)


if __name__ == "__main__":
    unittest.main()
