"""Styles of writing: the strokes of each figure, and what ink can make of it."""

from addedink.errors import DoubleShape, EmptyShape, InvalidFigure, InvalidStroke

LOWEST_STROKE = 1
HIGHEST_STROKE = 99
FIGURES = (0, 1, 2, 3, 4, 5, 6, 7, 8, 9)


def require_figure(figure):
    """Raise InvalidFigure if an integer is no figure."""
    if not 0 <= figure <= 9:
        raise InvalidFigure(figure)


def require_stroke(stroke):
    """Raise InvalidStroke if an integer is no stroke."""
    if not LOWEST_STROKE <= stroke <= HIGHEST_STROKE:
        raise InvalidStroke(stroke)


def read_shape(figure, strokes):
    """Return the ascending strokes of a figure, each once, or raise the error of the first fault."""
    for stroke in strokes:
        require_stroke(stroke)
    if not strokes:
        raise EmptyShape(figure)
    return sorted(set(strokes))


def read_shapes(shapes):
    """Return the shapes of all figures, or raise the error of the first figure that has a fault."""
    found = []
    for figure, strokes in enumerate(shapes):
        shape = read_shape(figure, strokes)
        if shape in found:
            raise DoubleShape(figure)
        found.append(shape)
    return found


def has_strokes(shape, strokes):
    """Tell whether all these strokes stand in a shape."""
    return all([stroke in shape for stroke in strokes])


class Style:
    """A style of writing. It never changes."""

    def __init__(self, shapes):
        self._shapes = read_shapes(shapes)

    @property
    def shapes(self):
        """The ascending lists of the strokes of the figures 0 to 9."""
        return [list(shape) for shape in self._shapes]

    def becomes(self, figure):
        """Return the other figures that a figure, or a blank cell for None, can become."""
        strokes = self._strokes_before(figure)
        return [other for other in FIGURES if other != figure and has_strokes(self._shapes[other], strokes)]

    def cost(self, figure, other):
        """Return how many strokes make a figure, or a blank cell for None, another one, or None."""
        strokes = self._strokes_before(figure)
        shape = self[other]
        if not has_strokes(shape, strokes):
            return None
        return len(shape) - len(strokes)

    def within(self, other):
        """Tell whether whatever a figure can become here, it can become in the other style too."""
        # A blank cell can become each figure in each style, so only figures are compared.
        pairs = [(figure, target) for figure in FIGURES for target in self.becomes(figure)]
        return all([other.cost(figure, target) is not None for figure, target in pairs])

    def redrawn(self, figure, strokes):
        """Return the style in which a figure has other strokes."""
        require_figure(figure)
        shapes = self.shapes
        shapes[figure] = strokes
        return Style(shapes)

    def _strokes_before(self, figure):
        """Return the strokes that stand in a cell with a figure, or in a blank cell for None."""
        if figure is None:
            return []
        return self[figure]

    def __getitem__(self, figure):
        require_figure(figure)
        return list(self._shapes[figure])

    def __iter__(self):
        raise TypeError("a style is not iterated over")

    def __eq__(self, other):
        return isinstance(other, Style) and self._shapes == other._shapes
