"""Fields: an amount in its cells, in which strokes are added one by one."""

from addedink.amounts import figure_in, is_good, is_unseen
from addedink.errors import InvalidCell, NotGood, NothingToUndo, StrokeStands
from addedink.styles import FIGURES, has_strokes, require_stroke
from addedink.traces import Walk

# How many blank cells stand ahead where the desk sets no limit.
MOST_BLANKS = 3


def figure_of(style, strokes):
    """Return the figure with these ascending strokes, None if no figure has them."""
    for figure in FIGURES:
        if style[figure] == strokes:
            return figure
    return None


def first_cell(rows):
    """Return the number of the first cell, from the left, that is not blank."""
    return max([cell for cell, strokes in enumerate(rows) if strokes])


def further_strokes(style, strokes):
    """Return a dict from the figures that can still be made of some strokes to how many are missing."""
    shapes = style.shapes
    return {
        figure: len(shapes[figure]) - len(strokes) for figure in FIGURES if has_strokes(shapes[figure], strokes)
    }


def fewest_after(walk, layer, figure, further):
    """Return a dict from the traces behind a layer to the fewest further strokes that lead there.

    The layer is such a dict too. The cell that is read held a figure, None if it was blank, and further
    tells of how many strokes which figures can still be made in it.
    """
    found = {}
    for trace, many in layer.items():
        for other, new in walk.steps(trace, figure):
            if other in further:
                together = many + further[other]
                found[new] = min(together, found.get(new, together))
    return found


class Field:
    """An amount in its cells, with blank cells ahead, to which strokes are added."""

    def __init__(self, desk, amount):
        if not is_good(desk, amount):
            raise NotGood(list(amount))
        blanks = MOST_BLANKS if desk.free is None else desk.free
        self._desk = desk
        self._amount = list(amount)
        self._drawn = [desk.style[figure] for figure in amount[::-1]] + [[] for _ in range(blanks)]
        self._added = []

    def __call__(self, cell, stroke):
        """Add a stroke in a cell."""
        self.write([(cell, stroke)])

    def strokes(self, cell):
        """Return the ascending strokes that stand in a cell."""
        self._require_cell(cell)
        return self._standing(cell, self._added)

    @property
    def seen(self):
        """The figures that are read from the first cell that is not blank, None where there is no figure."""
        rows = self._rows()
        return [figure_of(self._desk.style, strokes) for strokes in rows[first_cell(rows)::-1]]

    @property
    def shows_unseen(self):
        """Whether the field shows an unseen alteration of the amount."""
        figures = self.seen
        if None in figures or figures[0] == 0:
            return False
        return is_unseen(self._desk, self._amount, figures)

    def left(self):
        """Return the least number of further strokes that show an unseen alteration, None if none can."""
        walk = Walk(self._desk)
        rows = self._rows()
        layer = {walk.start: 0}
        found = []
        for cell, strokes in enumerate(rows):
            figure = figure_in(self._amount, cell)
            layer = fewest_after(walk, layer, figure, further_strokes(self._desk.style, strokes))
            # An amount that ends at an earlier cell would not be all that is read.
            if cell >= first_cell(rows):
                found.extend([many for trace, many in layer.items() if walk.is_unseen_trace(trace)])
        return min(found, default=None)

    def write(self, rows):
        """Add the strokes of a list of tuples (cell, stroke), all of them or, if one raises an error, none."""
        added = list(self._added)
        for cell, stroke in rows:
            self._require_cell(cell)
            require_stroke(stroke)
            if stroke in self._standing(cell, added):
                raise StrokeStands(stroke)
            added.append((cell, stroke))
        self._added = added

    def undo(self):
        """Take back the last stroke."""
        if not self._added:
            raise NothingToUndo(0)
        self._added.pop()

    def _require_cell(self, cell):
        """Raise InvalidCell if there is no such cell."""
        if not 0 <= cell < len(self._drawn):
            raise InvalidCell(cell)

    def _standing(self, cell, added):
        """Return the ascending strokes of a cell with those of the added ones that stand in it."""
        return sorted(self._drawn[cell] + [stroke for place, stroke in added if place == cell])

    def _rows(self):
        """Return the ascending strokes of each cell, from cell 0 on."""
        return [self._standing(cell, self._added) for cell in range(len(self._drawn))]

    def __len__(self):
        return len(self._added)

    def __eq__(self, other):
        return (
            isinstance(other, Field)
            and self._desk == other._desk
            and self._amount == other._amount
            and self._added == other._added
        )
