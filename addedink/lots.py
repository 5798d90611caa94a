"""Least sets of checks, and of redrawn figures, with which no alteration is unseen."""

from addedink.desks import require_checks
from addedink.errors import DoubleShape
from addedink.styles import Style, read_shape, require_figure
from addedink.unseen import closed


def is_sure(desk):
    """Tell whether no alteration is unseen at a desk."""
    return closed(desk) is not None


def least_checks(desk, offered):
    """Return all least sets of offered checks with which no alteration is unseen at a desk."""
    require_checks(offered)
    return least_sets(len(offered), lambda chosen: is_sure(desk.with_checks([offered[at] for at in chosen])))


def least_redraws(desk, offered):
    """Return all least sets of offered redraws with which no alteration is unseen at a desk."""
    for figure, strokes in offered:
        require_figure(figure)
        read_shape(figure, strokes)
    return least_sets(len(offered), lambda chosen: is_sure_redrawn(desk, [offered[at] for at in chosen]))


def is_sure_redrawn(desk, redraws):
    """Tell whether these redraws can be made at once, and no alteration is unseen behind them."""
    style = redrawn_at_once(desk.style, redraws)
    return style is not None and is_sure(desk.with_style(style))


def redrawn_at_once(style, redraws):
    """Return the style with all these redraws, None if they do not make a style."""
    shapes = style.shapes
    if len(set([figure for figure, _ in redraws])) < len(redraws):
        return None
    for figure, strokes in redraws:
        shapes[figure] = strokes
    try:
        return Style(shapes)
    except DoubleShape:
        return None


def least_sets(many, is_enough):
    """Return the sets of indexes that are enough and have no proper subset that is, in order."""
    found = []
    for chosen in index_sets(many):
        if not any([is_within(less, chosen) for less in found]) and is_enough(chosen):
            found.append(chosen)
    return found


def index_sets(many):
    """Return all ascending lists of indexes, by their number of entries, then as lists."""
    sets = [[]]
    for index in range(many):
        sets = sets + [chosen + [index] for chosen in sets]
    return sorted(sets, key=lambda chosen: (len(chosen), chosen))


def is_within(less, chosen):
    """Tell whether each entry of the first list stands in the second one."""
    return all([index in chosen for index in less])
