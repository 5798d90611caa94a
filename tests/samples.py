"""Styles of the document, and values that several tests pass."""

LAMPS = [
    [1, 2, 3, 5, 6, 7], [3, 6], [1, 3, 4, 5, 7], [1, 3, 4, 6, 7], [2, 3, 4, 6], [1, 2, 4, 6, 7], [1, 2, 4, 5, 6, 7],
    [1, 3, 6], [1, 2, 3, 4, 5, 6, 7], [1, 2, 3, 4, 6, 7],
]
BARS = [[10], [11], [12], [13], [14], [15], [16], [17], [18], [19]]
FEW = [[11], [1], [12], [13], [14], [15], [16], [1, 2], [17], [18]]
# Each figure can become each greater one.
STAIRS = [list(range(1, figure + 2)) for figure in range(10)]

NO_FIGURES = [-1, 10, 11, 99, -(10 ** 58), -(10 ** 59 - 1), 10 ** 59 - 1]
NO_STROKES = [0, -1, 100, -(10 ** 58), -(10 ** 59 - 1), 10 ** 59 - 1]


def copied(value):
    """Return an equal value with lists of its own."""
    if isinstance(value, list):
        return [copied(entry) for entry in value]
    if isinstance(value, tuple):
        return tuple(copied(entry) for entry in value)
    return value


def with_shape(shapes, figure, strokes):
    """Return a copy of the shapes with other strokes for a figure."""
    changed = copied(shapes)
    changed[figure] = strokes
    return changed


def lists_of(value):
    """Return all lists in a value of lists and tuples, itself included, each as often as it stands there."""
    found = [value] if isinstance(value, list) else []
    if isinstance(value, (list, tuple)):
        for entry in value:
            found.extend(lists_of(entry))
    return found


class Strange:
    """Says that it is equal to nothing; styles and desks do not ask it."""

    def __eq__(self, other):
        return NotImplemented

    __hash__ = None


# Lists that are no amounts.
NO_AMOUNTS = [[], [0], [0, 1], [0, 0, 0]] + [[figure] for figure in NO_FIGURES] + [
    [1, figure] for figure in NO_FIGURES
] + [[9, 0, 10, 0], [1] * 29 + [-1], [-1, 0], [10, 0]]
