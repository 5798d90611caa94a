"""Closed lists of traces, and what judges them."""

import random
import unittest

from addedink.desks import Desk
from addedink.styles import Style
from addedink.unseen import closed, first_unseen, judge_closed

from tests import reference
from tests.samples import BARS, FEW, LAMPS, STAIRS

LAMP_STYLE = Style(LAMPS)
BAR_STYLE = Style(BARS)
FEW_STYLE = Style(FEW)
STAIR_STYLE = Style(STAIRS)
SLIDE = Style(reference.SLIDE)
NINE = Desk(LAMP_STYLE, [("rest", 9, [1])])
SINGLE = NINE.with_limits(free=0, most=1, raised=False)
HUGE = 10 ** 59 + 1

# Desks at which no alteration is unseen, with all kinds of checks and limits.
SURE = [
    Desk(BAR_STYLE, []),
    Desk(BAR_STYLE, [("count",)], free=None),
    Desk(BAR_STYLE, [("rest", 2, [1]), ("rest", 3, [1, 2, 0])], most=2),
    SINGLE,
    Desk(LAMP_STYLE, [("copy", BAR_STYLE)], raised=True),
    Desk(LAMP_STYLE, [("copy", BAR_STYLE), ("count",)], free=3, most=4),
    Desk(SLIDE, [], raised=True),
    Desk(SLIDE, [("count",)], free=2, most=3, raised=True),
    Desk(LAMP_STYLE, [("rest", 9, [1, 2])], most=1),
    Desk(BAR_STYLE, [("rest", 9, [1, 0, 1])], free=1, most=1, raised=True).with_checks([("count",)]),
    Desk(BAR_STYLE, [("rest", 11, [1])], free=1),
    Desk(BAR_STYLE, [("rest", 11, [1])], free=None, most=1),
    Desk(FEW_STYLE, [("rest", 9, [1])], most=2),
]


def with_value(trace, place, value):
    return trace[:place] + (value,) + trace[place + 1:]


def random_trace(source, desk):
    moduli = [check[1] for check in reference.of_kind(desk, "rest")]
    return (
        source.randrange(desk.period), tuple(source.randrange(modulus) for modulus in moduli),
        tuple(source.randrange(modulus) for modulus in moduli),
        source.randrange(2 if desk.most is None else desk.most + 1), source.choice([-1, 0, 1]),
        source.randrange(2 if desk.free is None else desk.free + 1),
        (source.choice([True, False]), source.choice([True, False])),
    )


def closure(desk, traces):
    """All traces that are reached from these ones."""
    found = {}
    waiting = list(traces)
    while waiting:
        trace = waiting.pop()
        if trace not in found:
            found[trace] = True
            waiting.extend(reference.followers(desk, trace))
    return list(found)


class ClosedTest(unittest.TestCase):
    def test_examples(self):
        self.assertIs(judge_closed(SINGLE, closed(SINGLE)), True)
        self.assertIs(judge_closed(SINGLE, [(0, (0,), (0,), 0, 0, 0, (False, False))]), False)
        self.assertIsNone(closed(NINE))

    def test_none_if_some_alteration_is_unseen(self):
        for desk in reference.random_desks(11, 100):
            found = closed(desk)
            self.assertIs(found is None, first_unseen(desk) is not None)
            if found is not None:
                self.assertIs(judge_closed(desk, found), True)

    def test_a_closed_list_is_closed(self):
        for desk in SURE:
            found = closed(desk)
            self.assertIsInstance(found, list)
            self.assertTrue(reference.is_closed(desk, found))
            self.assertIs(judge_closed(desk, found), True)
            self.assertIs(judge_closed(told=found, desk=desk), True)
            self.assertIs(judge_closed(desk, list(reference.reached(desk))), True)

    def test_the_form_of_traces(self):
        for desk in SURE:
            many = len(reference.of_kind(desk, "rest"))
            for trace in closed(desk):
                self.assertIs(type(trace), tuple)
                phase, rests, others, cells, order, ahead, ends = trace
                self.assertEqual({type(entry) for entry in (phase, cells, order, ahead) + rests + others}, {int})
                self.assertEqual((type(rests), type(others), type(ends)), (tuple, tuple, tuple))
                self.assertEqual((len(rests), len(others)), (many, many))
                self.assertEqual([type(entry) for entry in ends], [bool, bool])

    def test_desks_that_methods_made(self):
        for desk in SURE:
            made = Desk(FEW_STYLE, desk.checks[:1], raised=not desk.raised).with_checks(desk.checks[1:])
            made = made.with_limits(raised=desk.raised, most=desk.most, free=desk.free)
            style = BAR_STYLE
            for figure, strokes in enumerate(desk.style.shapes):
                style = style.redrawn(figure, [stroke + 30 for stroke in strokes])
            self.assertIs(judge_closed(made.with_style(style), closed(desk)), True)
            self.assertIs(judge_closed(desk, closed(made.with_style(desk.style))), True)

    def test_lists_are_new(self):
        found = closed(SINGLE)
        found.clear()
        self.assertIs(judge_closed(SINGLE, closed(SINGLE)), True)


class JudgeTest(unittest.TestCase):
    def test_any_order_and_duplicates(self):
        source = random.Random(1)
        for desk in SURE:
            told = closed(desk)
            self.assertIs(judge_closed(desk, told[::-1]), True)
            self.assertIs(judge_closed(desk, told + told[::-1]), True)
            source.shuffle(told)
            self.assertIs(judge_closed(desk, told), True)

    def test_the_list_stays(self):
        told = closed(SINGLE) * 2
        before = list(told)
        judge_closed(SINGLE, told)
        self.assertEqual(told, before)

    def test_without_one_entry(self):
        source = random.Random(2)
        for desk in SURE:
            told = closed(desk)
            for at in source.sample(range(len(told)), min(len(told), 12)):
                less = told[:at] + told[at + 1:]
                self.assertEqual(judge_closed(desk, less), reference.is_closed(desk, less))
        # All of these are reached, so none can be left out.
        told = closed(SINGLE)
        for at in range(len(told)):
            self.assertIs(judge_closed(SINGLE, told[:at] + told[at + 1:]), False)

    def test_empty_and_without_the_start_trace(self):
        for desk in SURE:
            self.assertIs(judge_closed(desk, []), False)
            others = [trace for trace in closed(desk) if trace != reference.start(desk)]
            self.assertIs(judge_closed(desk, others), False)
        # A list without the start trace in which nothing else is missing.
        desk = Desk(BAR_STYLE, [], free=1).with_checks([("count",)])
        apart = closure(desk, [(0, (), (), 0, -1, 1, (False, True))])
        self.assertNotIn(reference.start(desk), apart)
        self.assertIs(judge_closed(desk, apart), False)
        self.assertIs(judge_closed(desk, apart + closed(desk)), True)

    def test_with_an_unseen_trace(self):
        for desk in [Desk(LAMP_STYLE, []), NINE, Desk(BAR_STYLE, [], free=1), Desk(FEW_STYLE, [], raised=True)]:
            told = list(reference.reached(desk))
            self.assertIs(judge_closed(desk, told), False)
            less = [trace for trace in told if not reference.shows_unseen(desk, trace)]
            self.assertIs(judge_closed(desk, less), False)
        for desk in SURE:
            zeros = reference.start(desk)[1]
            alone = (0, zeros, zeros, 1, 1, 0, (True, True))
            self.assertTrue(reference.shows_unseen(desk, alone))
            self.assertIs(judge_closed(desk, closed(desk) + closure(desk, [alone])), False)

    def test_what_makes_a_trace_an_unseen_one(self):
        # With nothing but blank cells left to read, which the count check forbids, a trace leads nowhere.
        desk = Desk(BAR_STYLE, [("rest", 3, [1]), ("count",), ("rest", 3, [2])], free=1, most=2)
        told = closed(desk)
        unseen = (0, (0, 0), (0, 0), 1, 1, 1, (True, True))
        self.assertIs(judge_closed(desk, told + [unseen]), False)
        for order in [0, -1]:
            self.assertIs(judge_closed(desk, told + [with_value(unseen, 4, order)]), False)
            raised = desk.with_limits(free=1, most=2, raised=True)
            self.assertIs(judge_closed(raised, told + [with_value(unseen, 4, order)]), True)
            self.assertIs(judge_closed(raised, told + [unseen]), False)
        self.assertIs(judge_closed(desk, told + [with_value(unseen, 3, 2)]), False)
        self.assertIs(judge_closed(desk, told + [with_value(unseen, 3, 0)]), True)
        for place in [1, 2]:
            for values in [(1, 0), (0, 2), (1, 2)]:
                self.assertIs(judge_closed(desk, told + [with_value(unseen, place, values)]), True)
        for ends in [(True, False), (False, True), (False, False)]:
            self.assertIs(judge_closed(desk, told + [with_value(unseen, 6, ends)]), True)

    def test_traces_out_of_their_ranges(self):
        base = Desk(BAR_STYLE, [("rest", 3, [1, 2]), ("count",), ("rest", 2, [1])])
        # Nothing is read behind this trace, so it may be added as long as it is one.
        loose = (1, (2, 1), (2, 1), 1, -1, 1, (True, False))
        for free in [1, 3, None]:
            for most in [1, 4, None]:
                desk = base.with_limits(free=free, most=most, raised=False)
                told = closed(desk)
                self.assertIs(judge_closed(desk, told + [loose]), True)
                ranges = {
                    0: (0, 1), 3: (0, 1 if most is None else most), 4: (-1, 1), 5: (1, 1 if free is None else free),
                }
                for place, (low, high) in ranges.items():
                    for value in range(low, high + 1):
                        self.assertIs(judge_closed(desk, told + [with_value(loose, place, value)]), True)
                    for value in [min(low, 0) - 1, high + 1, -HUGE, HUGE]:
                        self.assertIs(judge_closed(desk, told + [with_value(loose, place, value)]), False)
                        self.assertIs(judge_closed(desk, [with_value(loose, place, value)] + told), False)
                self.check_remainders(desk, told, loose)

    def check_remainders(self, desk, told, loose):
        for place in [1, 2]:
            for values in [(0, 0), (2, 0), (0, 1)]:
                self.assertIs(judge_closed(desk, told + [with_value(loose, place, values)]), True)
            for values in [(3, 0), (0, 2), (-1, 0), (0, -1), (HUGE, 1), (1, -HUGE), (-3, -2), (9, 9)]:
                self.assertIs(judge_closed(desk, told + [with_value(loose, place, values)]), False)

    def test_ranges_without_blank_cells(self):
        desk = Desk(BAR_STYLE, [], free=0)
        told = closed(desk)
        for value in [1, -1, HUGE]:
            self.assertIs(judge_closed(desk, told + [(0, (), (), 0, 0, value, (False, False))]), False)

    def test_ranges_do_not_look_at_other_values_and_checks(self):
        desk = Desk(BAR_STYLE, [("count",)], free=3, most=1)
        self.assertIs(judge_closed(desk, closed(desk) + [(0, (), (), 0, 1, 3, (True, False))]), True)
        self.assertIs(judge_closed(desk, closed(desk) + [(0, (), (), 0, -1, 2, (True, True))]), True)

    def test_traces_that_are_not_reached(self):
        source = random.Random(3)
        seen = {True: 0, False: 0}
        for desk in SURE:
            told = closed(desk)
            for _ in range(10):
                more = closure(desk, [random_trace(source, desk)])
                expected = not any(reference.shows_unseen(desk, trace) for trace in more)
                seen[expected] += 1
                self.assertIs(judge_closed(desk, told + more), expected)
                missing = source.choice(more)
                less = [trace for trace in told + more if trace != missing]
                self.assertIs(judge_closed(desk, less), reference.is_closed(desk, less))
        self.assertGreater(min(seen.values()), 20)

    def test_each_reading_of_any_trace(self):
        source = random.Random(4)
        checked = 0
        for desk in reference.random_desks(12, 500):
            told = closed(desk)
            trace = random_trace(source, desk)
            after = [new for new in reference.followers(desk, trace) if told is None or new not in told]
            if told is not None and not reference.shows_unseen(desk, trace):
                more = closure(desk, [trace])
                if not any(reference.shows_unseen(desk, reached) for reached in more):
                    checked += 1
                    together = [entry for entry in told + more if entry != trace] + [trace]
                    self.assertIs(judge_closed(desk, together), True)
                    for missing in after[:5]:
                        if missing != trace:
                            less = [entry for entry in together if entry != missing]
                            self.assertIs(judge_closed(desk, less), False)
        self.assertGreater(checked, 20)

    def test_lists_of_other_desks(self):
        for desk in SURE:
            for other in SURE:
                if len(reference.start(desk)[1]) == len(reference.start(other)[1]):
                    told = closed(other)
                    self.assertIs(judge_closed(desk, told), reference.is_closed(desk, told))


if __name__ == "__main__":
    unittest.main()
