"""Pages: rows of amounts whose total is written elsewhere and stays."""

from math import gcd

from addedink.amounts import is_good, is_unseen, require_amounts
from addedink.searches import ways_by_order
from addedink.traces import Walk


def is_page_sure(desk):
    """Tell whether no page is altered unseen at a desk."""
    return altered_page(desk) is None


def altered_page(desk):
    """Return a page that is altered unseen, as tuples (amount, seen, number of copies), None if there is none."""
    ways = ways_by_order(Walk(desk))
    if len(ways) < 2:
        return None
    amount, greater = ways[1]
    other, less = ways[-1]
    won, lost = gain(amount, greater), -gain(other, less)
    # So many copies of each that what one row wins the other one loses.
    shared = gcd(won, lost)
    return [(amount, greater, lost // shared), (other, less, won // shared)]


def judge_page(desk, told):
    """Tell whether a list of tuples (amount, seen, number of copies) is a page that is altered unseen."""
    require_amounts([figures for row in told for figures in row[:2]])
    if not all([number >= 1 and is_row(desk, amount, seen) for amount, seen, number in told]):
        return False
    if not any([amount != seen for amount, seen, _ in told]):
        return False
    return sum([number * gain(amount, seen) for amount, seen, number in told]) == 0


def is_row(desk, amount, seen):
    """Tell whether an amount and the one that is seen in its place may stand in a row of a page."""
    if amount == seen:
        return is_good(desk, amount)
    return is_unseen(desk, amount, seen)


def gain(amount, seen):
    """Return how much greater the second amount is, as a number."""
    return as_number(seen) - as_number(amount)


def as_number(amount):
    """Return an amount as a number."""
    number = 0
    for figure in amount:
        number = number * 10 + figure
    return number
