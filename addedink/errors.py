"""The errors of the program. Each keeps what it was given in the attribute value."""


class InkError(ValueError):
    """Any error of the program."""

    def __init__(self, value):
        self.value = value


class InvalidStroke(InkError):
    """An integer is no stroke: it is not from 1 to 99."""


class EmptyShape(InkError):
    """A figure has no strokes."""


class DoubleShape(InkError):
    """A figure has the same strokes as an earlier one."""


class InvalidFigure(InkError):
    """An integer is no figure: it is not from 0 to 9."""


class InvalidCheck(InkError):
    """A tuple is no check."""


class InvalidLimit(InkError):
    """A limit of a desk is too low."""


class InvalidAmount(InkError):
    """A list is no amount."""


class NotGood(InkError):
    """An amount does not pass all rest checks of a desk."""


class Unbounded(InkError):
    """No limit bounds the number of blank cells that can be written in."""


class InvalidCell(InkError):
    """A field has no such cell."""


class StrokeStands(InkError):
    """A stroke stands in a cell already."""


class NothingToUndo(InkError):
    """A field has no added stroke to take back."""


class Unreadable(InkError):
    """Nothing has this text."""
