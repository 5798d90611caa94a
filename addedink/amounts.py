"""Amounts: which are good, and which alterations of one are possible or unseen at a desk."""

from addedink.desks import checks_of, styles_of
from addedink.errors import InvalidAmount
from addedink.styles import FIGURES


def is_amount(figures):
    """Tell whether a list of integers is an amount."""
    return len(figures) > 0 and figures[0] != 0 and all([0 <= figure <= 9 for figure in figures])


def require_amounts(rows):
    """Raise InvalidAmount for the first list that is no amount."""
    for row in rows:
        if not is_amount(row):
            raise InvalidAmount(list(row))


def passes(check, figures):
    """Tell whether figures pass a rest check."""
    modulus, weights = check[1], check[2]
    parts = [figure * weights[cell % len(weights)] for cell, figure in enumerate(figures[::-1])]
    return sum(parts) % modulus == 0


def passes_all(desk, figures):
    """Tell whether figures pass all rest checks of a desk."""
    return all([passes(check, figures) for check in checks_of(desk, "rest")])


def total(costs):
    """Return the sum of prices, None if one of them is None."""
    if None in costs:
        return None
    return sum(costs)


def cell_price(styles, figure, other):
    """Return the price of a cell, blank for None, in all styles; None if one of them does not allow it."""
    return total([style.cost(figure, other) for style in styles])


def alteration_price(styles, amount, altered):
    """Return the price of an alteration in all styles; None if it is none in one of them."""
    if altered == amount or len(altered) < len(amount):
        return None
    before = [None] * (len(altered) - len(amount)) + amount
    return total([cell_price(styles, figure, other) for figure, other in zip(before, altered)])


def figure_in(amount, cell):
    """Return the figure in a cell of an amount, None if the cell is blank."""
    if cell < len(amount):
        return amount[-1 - cell]
    return None


def differing_cells(amount, altered):
    """Return the ascending numbers of the cells in which two amounts differ."""
    cells = range(max(len(amount), len(altered)))
    return [cell for cell in cells if figure_in(amount, cell) != figure_in(altered, cell)]


def is_at_most(number, limit):
    """Tell whether a number keeps a limit; None is no limit."""
    return limit is None or number <= limit


def keeps_limits(desk, amount, altered):
    """Tell whether an alteration keeps the three limits of a desk."""
    return (
        is_at_most(len(altered) - len(amount), desk.free)
        and is_at_most(len(differing_cells(amount, altered)), desk.most)
        and (not desk.raised or (len(altered), altered) > (len(amount), amount))
    )


def is_good(desk, amount):
    """Tell whether an amount passes all rest checks of a desk."""
    require_amounts([amount])
    return passes_all(desk, amount)


def is_possible(desk, amount, altered):
    """Tell whether the second amount is an alteration of the first one that is possible at a desk."""
    require_amounts([amount, altered])
    if alteration_price([desk.style], amount, altered) is None:
        return False
    return keeps_limits(desk, amount, altered)


def is_unseen(desk, amount, altered):
    """Tell whether the second amount is an alteration of the first one that no check of a desk sees."""
    if not is_possible(desk, amount, altered):
        return False
    if len(altered) > len(amount) and checks_of(desk, "count"):
        return False
    if alteration_price(styles_of(desk), amount, altered) is None:
        return False
    return passes_all(desk, amount) and passes_all(desk, altered)


def altered_cells(amount, altered):
    """Return the ascending numbers of the cells in which two amounts differ, blank cells included."""
    require_amounts([amount, altered])
    return differing_cells(amount, altered)


def price(desk, amount, altered):
    """Return the price of an alteration in the style of a desk and in its copies, None if there is none."""
    require_amounts([amount, altered])
    return alteration_price(styles_of(desk), amount, altered)


def check_figures(desk, amount):
    """Return the ascending figures that make an amount good if they are put behind its last figure."""
    require_amounts([amount])
    return [figure for figure in FIGURES if passes_all(desk, amount + [figure])]
