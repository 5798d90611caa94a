"""The document's definitions, word for word and slowly, over what a desk tells of itself."""

import itertools
import random

from addedink.desks import Desk
from addedink.styles import Style

from tests.samples import BARS, FEW, LAMPS, STAIRS

FIGURES = range(10)
# Each figure can become each lower one.
SLIDE = STAIRS[::-1]
# 0 becomes 1 and nothing else; 9 becomes 8 and nothing else.
UP_ONE = [[1], [1, 2], [3], [4], [5], [6], [7], [8], [9], [10]]
DOWN_ONE = [[3], [4], [5], [6], [7], [8], [9], [10], [1, 2], [1]]
ALL_SHAPES = [LAMPS, BARS, FEW, STAIRS, SLIDE, UP_ONE, DOWN_ONE]


def of_kind(desk, kind):
    return [check for check in desk.checks if check[0] == kind]


def shapes_of(desk):
    return [desk.style.shapes] + [check[1].shapes for check in of_kind(desk, "copy")]


def counted(desk):
    return bool(of_kind(desk, "count"))


def cell_cost(shapes, figure, other):
    """The strokes that a cell needs, None if it cannot become the other figure."""
    before = set() if figure is None else set(shapes[figure])
    return len(set(shapes[other]) - before) if before <= set(shapes[other]) else None


def number(amount):
    return int("".join(map(str, amount)))


def in_order(amount):
    return (len(amount), amount)


def good(desk, amount):
    for _, modulus, weights in of_kind(desk, "rest"):
        if sum(amount[-1 - cell] * weights[cell % len(weights)] for cell in range(len(amount))) % modulus:
            return False
    return True


def cells_of(amount, many):
    """What stands in so many cells, from cell 0 on."""
    return [amount[-1 - cell] if cell < len(amount) else None for cell in range(many)]


def changed(amount, altered):
    many = max(len(amount), len(altered))
    before, after = cells_of(amount, many), cells_of(altered, many)
    return [cell for cell in range(many) if before[cell] != after[cell]]


def cost(desk, amount, altered):
    """The price of an alteration, in all styles."""
    if amount == altered or len(altered) < len(amount):
        return None
    before, after = cells_of(amount, len(altered)), cells_of(altered, len(altered))
    costs = [cell_cost(shapes, *pair) for shapes in shapes_of(desk) for pair in zip(before, after)]
    return None if None in costs else sum(costs)


def possible(desk, amount, altered):
    if cost(Desk(desk.style, []), amount, altered) is None:
        return False
    if desk.free is not None and len(altered) - len(amount) > desk.free:
        return False
    if desk.most is not None and len(changed(amount, altered)) > desk.most:
        return False
    return not desk.raised or number(altered) > number(amount)


def unseen(desk, amount, altered):
    return (
        possible(desk, amount, altered) and good(desk, amount) and good(desk, altered)
        and cost(desk, amount, altered) is not None and not (counted(desk) and len(altered) > len(amount))
    )


def amounts(many):
    """All amounts with so many figures, in order."""
    for rest in itertools.product(FIGURES, repeat=many):
        if rest[0] != 0:
            yield list(rest)


def amounts_up_to(many):
    for length in range(1, many + 1):
        yield from amounts(length)


def candidates(desk, amount, blanks):
    """All alterations of an amount in the desk's style, with up to so many blank cells ahead, in order."""
    shapes = desk.style.shapes
    for ahead in range(blanks + 1):
        before = [None] * ahead + amount
        choices = [[other for other in FIGURES if cell_cost(shapes, figure, other) is not None] for figure in before]
        for row in itertools.product(*choices):
            if row[0] != 0 and list(row) != amount:
                yield list(row)


def all_unseen(desk, amount, blanks):
    return [row for row in candidates(desk, amount, blanks) if unseen(desk, amount, row)]


def first_short(desk, many, blanks):
    """The first amount of up to so many figures with an unseen alteration, and the first one of these."""
    for amount in amounts_up_to(many):
        if good(desk, amount):
            for row in candidates(desk, amount, blanks):
                if unseen(desk, amount, row):
                    return (amount, row)
    return None


def start(desk):
    zeros = tuple(0 for _ in of_kind(desk, "rest"))
    return (0, zeros, zeros, 0, 0, 0, (False, False))


def is_in_range(desk, trace):
    phase, rests, others, cells, order, ahead, _ = trace
    moduli = [check[1] for check in of_kind(desk, "rest")]
    return (
        phase in range(desk.period)
        and all(rest in range(modulus) for rest, modulus in zip(rests, moduli))
        and all(rest in range(modulus) for rest, modulus in zip(others, moduli))
        and cells in range(2 if desk.most is None else desk.most + 1)
        and order in (-1, 0, 1)
        and ahead in range(2 if desk.free is None else desk.free + 1)
    )


def shows_unseen(desk, trace):
    _, rests, others, cells, order, _, ends = trace
    return (
        not any(rests) and not any(others) and cells != 0 and (not desk.raised or order == 1) and all(ends)
    )


def readings(desk, trace):
    """All readings (figure, other) from a trace, None for a blank cell, before the limits are looked at."""
    ahead, ends = trace[5], trace[6]
    if ahead == 0:
        for figure, other in itertools.product(FIGURES, FIGURES):
            if all(cell_cost(shapes, figure, other) is not None for shapes in shapes_of(desk)):
                yield (figure, other)
    if ends[0] and not counted(desk):
        for other in FIGURES:
            yield (None, other)


def read(desk, trace, figure, other):
    """The trace behind a reading, None if a limit does not allow it."""
    phase, rests, others, cells, order, ahead, ends = trace
    blank = figure is None
    a, b = (0 if blank else figure), other
    checks = of_kind(desk, "rest")
    weights = [check[2][phase % len(check[2])] for check in checks]
    moduli = [check[1] for check in checks]
    rests = tuple((old + weight * a) % modulus for old, weight, modulus in zip(rests, weights, moduli))
    others = tuple((old + weight * b) % modulus for old, weight, modulus in zip(others, weights, moduli))
    if blank or b != a:
        cells = 1 if desk.most is None else cells + 1
    if blank:
        ahead = 1 if desk.free is None else ahead + 1
    if desk.most is not None and cells > desk.most or desk.free is not None and ahead > desk.free:
        return None
    order = 1 if b > a else -1 if b < a else order
    ends = (ends[0] if blank else a != 0, b != 0)
    return ((phase + 1) % desk.period, rests, others, cells, order, ahead, ends)


def followers(desk, trace):
    """A dict from the traces to which a trace leads to the least price of a reading."""
    found = {}
    for figure, other in readings(desk, trace):
        new = read(desk, trace, figure, other)
        if new is not None:
            paid = sum(cell_cost(shapes, figure, other) for shapes in shapes_of(desk))
            found[new] = min(paid, found.get(new, paid))
    return found


def reached(desk):
    """A dict from the traces that are reached from the start trace to what they lead to."""
    found = {}
    waiting = [start(desk)]
    while waiting:
        trace = waiting.pop()
        if trace not in found:
            found[trace] = followers(desk, trace)
            waiting.extend(found[trace])
    return found


def lowest_price(desk):
    """The least price of an unseen alteration, by relaxing all prices until none gets lower."""
    found = reached(desk)
    prices = {start(desk): 0}
    waiting = [start(desk)]
    while waiting:
        trace = waiting.pop(0)
        for new, paid in found[trace].items():
            if prices[trace] + paid < prices.get(new, prices[trace] + paid + 1):
                prices[new] = prices[trace] + paid
                waiting.append(new)
    return min([prices[trace] for trace in prices if shows_unseen(desk, trace)], default=None)


def extended(desk, layer, blank):
    """The traces one cell further, each with the least amount, and the least altered one with it, read so far."""
    found = {}
    for trace, (amount, altered) in layer.items():
        for figure, other in readings(desk, trace):
            new = read(desk, trace, figure, other)
            if new is not None and (figure is None) == blank:
                way = (amount if blank else [figure] + amount, [other] + altered)
                found[new] = min(way, found.get(new, way))
    return found


def first_by_layers(desk, figures, blanks):
    """The first unseen alteration of an amount of up to so many figures, with so many blank cells."""
    # What lies ahead depends on the trace alone, and figures ahead come first in the order:
    # so of two ways to a trace the greater one is never needed.
    layer = {start(desk): ([], [])}
    for _ in range(figures):
        layer = ahead = extended(desk, layer, False)
        ways = []
        for _ in range(blanks + 1):
            ways += [way for trace, way in ahead.items() if shows_unseen(desk, trace)]
            ahead = extended(desk, ahead, True)
        if ways:
            return min(ways, key=lambda way: (way[0], in_order(way[1])))
    return None


def is_closed(desk, told):
    told = set(told)
    return (
        start(desk) in told
        and all(is_in_range(desk, trace) and not shows_unseen(desk, trace) for trace in told)
        and all(new in told for trace in told for new in followers(desk, trace))
    )


def random_checks(source, product):
    """Some checks whose moduli have at most this product."""
    checks = []
    length = source.choice([1, 2, 3])
    for _ in range(source.choice([0, 1, 1, 2])):
        modulus = source.randint(2, 9)
        if modulus <= product:
            product //= modulus
            weights = [source.choice([0, 1, 2, 3, -1, 7, -(10 ** 59)]) for _ in range(source.choice([1, length]))]
            checks.append(("rest", modulus, weights))
    if source.random() < 0.3:
        checks.append(("copy", Style(source.choice(ALL_SHAPES))))
    if source.random() < 0.3:
        checks.append(("count",))
    source.shuffle(checks)
    return checks


def random_desk(source, product=9, frees=(0, 0, 1, 2, 3, None)):
    """A desk within the limits of the document."""
    return Desk(
        Style(source.choice(ALL_SHAPES)), random_checks(source, product), free=source.choice(frees),
        most=source.choice([1, 1, 2, 3, 4, None]), raised=source.random() < 0.4,
    )


def random_desks(seed, many, **more):
    source = random.Random(seed)
    return [random_desk(source, **more) for _ in range(many)]
