"""Unseen alterations: the first one, the cheapest one, those of an amount, or a proof that there is none."""

from addedink.amounts import is_good, is_unseen, price, require_amounts
from addedink.desks import checks_of, styles_of
from addedink.errors import NotGood, Unbounded
from addedink.searches import cheapest_way, first_way, reached_traces
from addedink.styles import FIGURES
from addedink.traces import Walk, becoming


def first_unseen(desk):
    """Return the first amount that has an unseen alteration, with the first one, as a tuple, or None."""
    return first_way(Walk(desk))


def least_price(desk):
    """Return the least price of an unseen alteration, None if there is none."""
    way = cheapest_way(Walk(desk))
    if way is None:
        return None
    return way[0]


def cheapest(desk):
    """Return a tuple (amount, altered) with the least price of an unseen alteration, None if there is none."""
    way = cheapest_way(Walk(desk))
    if way is None:
        return None
    return (way[1], way[2])


def closed(desk):
    """Return a closed list of traces, None if some alteration is unseen."""
    return reached_traces(Walk(desk))


def judge_closed(desk, told):
    """Tell whether a list of traces is closed."""
    walk = Walk(desk)
    entries = {trace: True for trace in told}
    if walk.start not in entries:
        return False
    for trace in entries:
        if not walk.is_trace(trace) or walk.is_unseen_trace(trace):
            return False
    for trace in entries:
        if not all([new in entries for new in walk.following(trace)]):
            return False
    return True


def rows_of(choices):
    """Return all lists of figures with one of the choices in each place and no 0 ahead, in ascending order."""
    rows = [[]]
    for figures in choices:
        rows = [row + [figure] for row in rows for figure in figures if row or figure != 0]
    return rows


def unseen_alterations(desk, amount):
    """Return the list of all unseen alterations of an amount, in order."""
    if not is_good(desk, amount):
        raise NotGood(list(amount))
    if desk.free is None:
        raise Unbounded(0)
    blanks = 0 if checks_of(desk, "count") else desk.free
    targets = becoming(styles_of(desk))
    found = []
    for ahead in range(blanks + 1):
        rows = rows_of([list(targets[figure]) for figure in [None] * ahead + amount])
        found.extend([row for row in rows if is_unseen(desk, amount, row)])
    return found


def sources(desk, seen):
    """Return tuples (amount, price) of all amounts of which a seen one is an unseen alteration, in order."""
    require_amounts([seen])
    targets = becoming(styles_of(desk))
    choices = [[figure for figure in FIGURES if other in targets[figure]] for other in seen]
    found = []
    for ahead in range(len(seen) - 1, -1, -1):
        rows = rows_of(choices[ahead:])
        found.extend([(row, price(desk, row, seen)) for row in rows if is_unseen(desk, row, seen)])
    return found


def likeliest(desk, seen):
    """Return the amounts with the least price of which a seen one is an unseen alteration, in order."""
    found = sources(desk, seen)
    least = min([cost for _, cost in found], default=None)
    return [amount for amount, cost in found if cost == least]
