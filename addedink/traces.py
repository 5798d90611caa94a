"""Traces: what matters of an amount and an alteration of it that were read from the right up to some cell.

A trace is a tuple (phase, rests, others, cells, order, ahead, ends). Its first three values are called
its sums here, and its other four its shape: a reading changes each of the two without the other one.
"""

from addedink.amounts import cell_price
from addedink.desks import checks_of, styles_of
from addedink.styles import FIGURES

# What can stand in a cell: None in a blank one.
CONTENTS = (None, 0, 1, 2, 3, 4, 5, 6, 7, 8, 9)
START_SHAPE = (0, 0, 0, (False, False))


def highest(limit):
    """Return the highest number that a trace tells under a limit; without one, 1 stands for all above 0."""
    if limit is None:
        return 1
    return limit


def one_more(number, limit):
    """Return how a trace tells one more than a number, None if a limit does not allow it."""
    if limit is None:
        return 1
    if number == limit:
        return None
    return number + 1


def becoming(styles):
    """Return, for all that can stand in a cell, a dict from the figures that it stays or can become to the price."""
    found = {}
    for figure in CONTENTS:
        prices = [(other, cell_price(styles, figure, other)) for other in FIGURES]
        found[figure] = {other: cost for other, cost in prices if cost is not None}
    return found


class Walk:
    """The readings at a desk, and the traces to which they lead."""

    def __init__(self, desk):
        self._rests = [(check[1], check[2]) for check in checks_of(desk, "rest")]
        self._counted = len(checks_of(desk, "count")) > 0
        self._free = desk.free
        self._most = desk.most
        self._raised = desk.raised
        self._zeros = tuple([0 for _ in self._rests])
        self.cycle = desk.period
        self.prices = becoming(styles_of(desk))
        self.start = (0, self._zeros, self._zeros) + START_SHAPE
        # The same sums and shapes occur in many traces: what follows them is worked out once.
        self._sums_known = {}
        self._shapes_known = {}
        # Traces from which no writing in blank cells leads to an unseen one.
        self._dead = {}

    def is_trace(self, trace):
        """Tell whether each value of a trace is in its range."""
        phase, rests, others, cells, order, ahead = trace[:6]
        return (
            0 <= phase < self.cycle
            and self._are_remainders(rests)
            and self._are_remainders(others)
            and 0 <= cells <= highest(self._most)
            and -1 <= order <= 1
            and 0 <= ahead <= highest(self._free)
        )

    def is_unseen_trace(self, trace):
        """Tell whether a trace is one of an unseen alteration."""
        _, rests, others, cells, order = trace[:5]
        return (
            trace[6] == (True, True)
            and rests == self._zeros
            and others == self._zeros
            and cells != 0
            and (order == 1 or not self._raised)
        )

    def steps(self, trace, figure):
        """Return a tuple (other, trace) for each reading of a figure, or of a blank cell for None."""
        shapes = self._shapes_after(trace[3:], figure)
        if not shapes:
            return []
        sums = self._sums_after(trace[:3], figure)
        return [(other, sums[other] + shape) for other, shape in shapes]

    def following(self, trace):
        """Return the traces to which a trace leads, some perhaps several times."""
        return [step[1] for figure in CONTENTS for step in self.steps(trace, figure)]

    def ends_unseen(self, trace):
        """Tell whether a trace is an unseen one, or writing in blank cells alone leads from it to one."""
        seen = {trace: True}
        layer = [trace]
        while layer:
            if any([self.is_unseen_trace(reached) for reached in layer]):
                return True
            ahead = [step[1] for reached in layer for step in self.steps(reached, None)]
            layer = list({new: True for new in ahead if new not in seen and new not in self._dead})
            seen.update({new: True for new in layer})
        self._dead.update(seen)
        return False

    def _are_remainders(self, values):
        """Tell whether each value is a remainder of its rest check."""
        return all([0 <= value < modulus for value, (modulus, _) in zip(values, self._rests)])

    def _sums_after(self, sums, figure):
        """Return the list of the sums after the figure and each figure of the altered amount."""
        key = (sums, figure)
        if key not in self._sums_known:
            phase, rests, others = sums
            after = (phase + 1) % self.cycle
            read = self._added(phase, rests, 0 if figure is None else figure)
            self._sums_known[key] = [(after, read, self._added(phase, others, other)) for other in FIGURES]
        return self._sums_known[key]

    def _added(self, phase, values, figure):
        """Return the remainders after a figure is read in a cell of this phase."""
        return tuple([
            (value + figure * weights[phase % len(weights)]) % modulus
            for value, (modulus, weights) in zip(values, self._rests)
        ])

    def _shapes_after(self, shape, figure):
        """Return a tuple (other, shape) for each reading of a figure that is allowed behind a shape."""
        key = (shape, figure)
        if key not in self._shapes_known:
            found = []
            if self._is_read(shape, figure):
                after = [(other, self._shape_after(shape, figure, other)) for other in self.prices[figure]]
                found = [step for step in after if step[1] is not None]
            self._shapes_known[key] = found
        return self._shapes_known[key]

    def _is_read(self, shape, figure):
        """Tell whether a cell with a figure, or a blank one for None, is read behind a shape."""
        ahead, ends = shape[2:]
        if figure is None:
            return ends[0] and not self._counted
        return ahead == 0

    def _shape_after(self, shape, figure, other):
        """Return what a reading makes of a shape, None if a limit does not allow it."""
        cells, order, ahead, ends = shape
        first = ends[0]
        before = 0
        if figure is None:
            ahead = one_more(ahead, self._free)
        else:
            first = figure != 0
            before = figure
        if other != figure:
            cells = one_more(cells, self._most)
        if cells is None or ahead is None:
            return None
        if other != before:
            order = 1 if other > before else -1
        return (cells, order, ahead, (first, other != 0))
