"""Searches among the traces of a desk. A walk holds the readings at the desk."""

from heapq import heappop, heappush

from addedink.styles import FIGURES
from addedink.traces import CONTENTS


def reached_traces(walk):
    """Return the list of the traces that are reached from the start trace, None if an unseen one is."""
    reached = {walk.start: True}
    layer = [walk.start]
    while layer:
        found = []
        for trace in layer:
            for new in walk.following(trace):
                if new not in reached:
                    if walk.is_unseen_trace(new):
                        return None
                    reached[new] = True
                    found.append(new)
        layer = found
    return list(reached)


def cheapest_way(walk):
    """Return a tuple (price, amount, altered) of an unseen alteration of the least price, None if there is none."""
    # A cost is a price and a number of cells: without the cells the amount might grow needlessly.
    best = {walk.start: (0, 0)}
    last_steps = {walk.start: None}
    queue = [((0, 0), walk.start)]
    while queue:
        cost, trace = heappop(queue)
        if cost == best[trace]:
            if walk.is_unseen_trace(trace):
                amount, altered = written(last_steps, trace)
                return (cost[0], amount, altered)
            for figure in CONTENTS:
                for other, new in walk.steps(trace, figure):
                    new_cost = (cost[0] + walk.prices[figure][other], cost[1] + 1)
                    if new not in best or new_cost < best[new]:
                        best[new] = new_cost
                        last_steps[new] = (trace, figure, other)
                        heappush(queue, (new_cost, new))
    return None


def ways_by_order(walk):
    """Return a dict from each order of unseen alterations, 1 or -1, to a tuple (amount, altered) of the fewest cells.

    An order of which no alteration is unseen is left out.
    """
    last_steps = {walk.start: None}
    found = {}
    layer = [walk.start]
    while layer and len(found) < 2:
        reached = []
        for trace in layer:
            for figure in CONTENTS:
                for other, new in walk.steps(trace, figure):
                    if new not in last_steps:
                        last_steps[new] = (trace, figure, other)
                        reached.append(new)
        for trace in reached:
            if walk.is_unseen_trace(trace) and trace[4] not in found:
                found[trace[4]] = written(last_steps, trace)
        layer = reached
    return found


def written(last_steps, trace):
    """Return the amount and the altered amount of which a trace tells, by the last step to each trace.

    The start trace has None as its last step.
    """
    amount = []
    altered = []
    step = last_steps[trace]
    while step is not None:
        before, figure, other = step
        altered.append(other)
        if figure is not None:
            amount.append(figure)
        step = last_steps[before]
    return (amount, altered)


def first_way(walk):
    """Return the tuple (amount, altered) of the first unseen alteration, None if there is none."""
    depths, last = read_amounts(walk)
    if not last:
        return None
    amount = first_amount(walk, depths, last)
    return (amount, first_altered(walk, amount))


def read_amounts(walk):
    """Read amounts with more and more figures, until one of them has an unseen alteration.

    Return a dict from the traces that were reached to the least number of figures, and the list of
    those traces at which such an amount ends; the list is empty if no alteration is unseen.
    """
    depths = {walk.start: 0}
    layer = [walk.start]
    last = []
    depth = 0
    while layer and not last:
        depth += 1
        layer = [trace for trace in traces_after(walk, layer, FIGURES) if trace not in depths]
        for trace in layer:
            depths[trace] = depth
        last = [trace for trace in layer if walk.ends_unseen(trace)]
    return (depths, last)


def traces_after(walk, layer, figures):
    """Return the traces, each once, to which the readings of these figures lead from a layer of traces."""
    return list({step[1]: True for trace in layer for figure in figures for step in walk.steps(trace, figure)})


def first_amount(walk, depths, last):
    """Return the first amount whose readings lead from the start trace to one of the last traces."""
    amount = []
    wanted = last
    for cells in range(depths[last[0]] - 1, -1, -1):
        figure, wanted = least_figure(walk, traces_at(walk, depths, cells), wanted)
        amount.append(figure)
    return amount


def traces_at(walk, depths, cells):
    """Return the traces that are reached by reading this number of figures."""
    # Zeros that stay lead through a whole period from the start trace to itself again,
    # so a trace that is reached by fewer figures is also reached by one more period of them.
    return [trace for trace in depths if depths[trace] <= cells and trace[0] == cells % walk.cycle]


def least_figure(walk, layer, wanted):
    """Return the least figure that leads from a layer to wanted traces, and the traces from which it does."""
    goals = {trace: True for trace in wanted}
    found = []
    figure = -1
    while not found:
        figure += 1
        found = [trace for trace in layer if any([step[1] in goals for step in walk.steps(trace, figure)])]
    return (figure, found)


def first_altered(walk, amount):
    """Return the first unseen alteration of an amount that has one."""
    layers = [[walk.start]]
    cells = list(amount)
    for figure in amount[::-1]:
        layers.append(traces_after(walk, layers[-1], [figure]))
    while not any([walk.is_unseen_trace(trace) for trace in layers[-1]]):
        layers.append(traces_after(walk, layers[-1], [None]))
        cells.insert(0, None)
    last = layers.pop()
    wanted = [trace for trace in last if walk.is_unseen_trace(trace)]
    altered = []
    for figure in cells:
        other, wanted = least_other(walk, layers.pop(), figure, wanted)
        altered.append(other)
    return altered


def least_other(walk, layer, figure, wanted):
    """Return the least figure that a figure becomes on the way to wanted traces, and the traces from which it does."""
    goals = {trace: True for trace in wanted}
    steps = [(other, trace) for trace in layer for other, new in walk.steps(trace, figure) if new in goals]
    least = min([other for other, _ in steps])
    return (least, [trace for other, trace in steps if other == least])
