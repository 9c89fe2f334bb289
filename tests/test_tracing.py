"""Points 6.5 and 6.6: the spans of all cells from instruction to instruction."""

import unittest

from odds.tracing import spans_after, trace_spans
from odds.unroll import unroll
from tests import reference_spans
from tests.reference import walk_flat
from tests.samples import flat_programs, some_choices
from tests.support import EXAMPLE_PROGRAM, Case, Numbers

LIMIT = 999999999
N = [("num", number) for number in range(10)]
A, B, C = ("cell", 0), ("cell", 1), ("cell", 2)
TRUE, FALSE = ("true",), ("false",)
NEVER, ALWAYS, UNKNOWN = (0, 0), (1, 1), (0, 1)


class SpansAfterTest(Case):

    def after(self, instruction, spans, changed):
        """The instruction changes these spans, and only these."""
        expected = [changed.get(cell, span) for cell, span in enumerate(spans)]
        self.same(self.pure(spans_after, instruction, list(spans)), expected, (instruction, spans))

    def each_guard(self, action, spans, certain, uncertain):
        """The changes behind a certain guard, and behind one that is not; cell 9 is the guard."""
        spans = [*spans, *[(0, 0)] * (9 - len(spans))]
        self.after((-1, *action), [*spans, UNKNOWN], certain)
        self.after((9, *action), [*spans, ALWAYS], certain)
        self.after((9, *action), [*spans, UNKNOWN], uncertain)
        self.after((9, *action), [*spans, NEVER], {})

    def test_set(self):
        self.each_guard(("set", 0, ("add", A, B)), [(5, 6), (1, 2)], {0: (6, 8)}, {0: (5, 8)})
        self.each_guard(("set", 1, N[3]), [(5, 6), (1, 2)], {1: (3, 3)}, {1: (1, 3)})
        self.each_guard(("set", 1, ("neg", N[3])), [(5, 6), (1, 2)], {1: (-3, -3)}, {1: (-3, 2)})
        self.each_guard(("set", 1, N[5]), [(0, 0), (3, 9)], {1: (5, 5)}, {})

    def test_draws(self):
        for before in (NEVER, ALWAYS, UNKNOWN):
            self.each_guard(("flip", 0, N[1], N[2]), [before], {0: UNKNOWN}, {0: UNKNOWN})
        self.each_guard(("flip", 0, N[0], N[2]), [ALWAYS], {0: UNKNOWN}, {0: UNKNOWN})
        self.each_guard(("pick", 0, ((N[4], N[1]),)), [(1, 2)], {0: (4, 4)}, {0: (1, 4)})
        # The values count, whatever the weights are.
        self.each_guard(("pick", 0, ((B, N[1]), (("neg", N[1]), N[0]), (C, N[9]))),
                        [(9, 9), (3, 4), (2, 3)], {0: (-1, 4)}, {0: (-1, 9)})
        self.each_guard(("pick", 0, ((TRUE, N[1]), (FALSE, N[1]))), [NEVER], {0: UNKNOWN},
                        {0: UNKNOWN})

    def test_uniform(self):
        for first, second, certain, uncertain in (
                ((2, 4), (5, 7), (2, 7), (0, 9)), ((2, 4), (3, 3), (2, 3), (0, 9)),
                ((2, 4), (-5, 2), (2, 2), (0, 9)), ((2, 4), (-5, 1), (2, 2), (0, 9)),
                ((12, 14), (3, 4), (12, 12), (0, 12)), ((-7, 3), (3, 4), (-7, 4), (-7, 9)),
                ((2, 4), (11, 12), (2, 12), (0, 12)), ((2, 2), (2, 2), (2, 2), (0, 9))):
            self.each_guard(("uniform", 0, B, C), [(0, 9), first, second],
                            {0: certain}, {0: uncertain})

    def test_store(self):
        spans = [(0, 0), (0, 0), (0, 1), (5, 5), (-2, 9)]
        for index, cells in (((0, 0), [2]), ((1, 1), [3]), ((2, 2), [4]), ((2, 7), [4]),
                             ((-4, 0), [2])):
            for value in ((7, 8), (-9, 12)):
                now = [index, value, *spans[2:]]
                hulls = {cell: (min(now[cell][0], value[0]), max(now[cell][1], value[1]))
                         for cell in cells}
                self.each_guard(("store", 2, 3, A, B), now, {cell: value for cell in cells}, hulls)

    def test_a_store_to_several_items_or_none(self):
        spans = [(0, 0), (7, 8), (0, 1), (5, 5), (-2, 9)]
        for index, changed in (
                ((0, 1), {2: (0, 8), 3: (5, 8)}), ((1, 2), {3: (5, 8), 4: (-2, 9)}),
                ((0, 2), {2: (0, 8), 3: (5, 8), 4: (-2, 9)}), ((1, LIMIT), {3: (5, 8)}),
                ((-LIMIT, LIMIT), {2: (0, 8), 3: (5, 8)}), ((3, 3), {}), ((-1, -1), {}),
                ((3, 9), {}), ((-9, -1), {})):
            self.each_guard(("store", 2, 3, A, B), [index, *spans[1:]], changed, changed)

    def test_split(self):
        for span in (NEVER, ALWAYS, UNKNOWN):
            other = (1 - span[1], 1 - span[0])
            for before in (NEVER, ALWAYS, UNKNOWN):
                self.each_guard(
                    ("split", 1, 2, A), [span, before, before], {1: span, 2: other},
                    {1: reference_spans.hull([span, before]),
                     2: reference_spans.hull([other, before])})
        self.each_guard(("split", 2, 1, ("lt", A, N[4])), [(1, 3), NEVER, NEVER], {2: ALWAYS},
                        {2: UNKNOWN})

    def test_others(self):
        for action in (("observe", A), ("weigh", N[1], N[2]), ("assert", A), ("fail",), ("halt",)):
            self.each_guard(action, [UNKNOWN, (4, 5)], {}, {})

    def test_the_guard_itself_is_written(self):
        self.after((0, "set", 0, FALSE), [UNKNOWN], {0: UNKNOWN})
        self.after((0, "set", 0, FALSE), [ALWAYS], {0: NEVER})
        self.after((0, "set", 0, TRUE), [NEVER], {})
        self.after((0, "split", 1, 0, TRUE), [UNKNOWN, NEVER], {0: UNKNOWN, 1: UNKNOWN})
        self.after((0, "split", 1, 0, TRUE), [ALWAYS, NEVER], {0: NEVER, 1: ALWAYS})

    def test_all_writes_depend_on_the_spans_before(self):
        self.after((-1, "split", 0, 1, ("and", A, B)), [ALWAYS, UNKNOWN], {0: UNKNOWN, 1: UNKNOWN})
        self.after((-1, "split", 0, 1, ("not", A)), [ALWAYS, NEVER], {0: NEVER, 1: ALWAYS})
        self.after((-1, "store", 0, 1, A, N[7]), [(0, 0)], {0: (7, 7)})


class TraceTest(Case):

    def test_example(self):
        flat = (("int",), ((-1, "uniform", 0, N[2], N[4]), (-1, "set", 0, ("neg", A))), ())
        self.same(self.pure(trace_spans, flat), [[(0, 0)], [(2, 4)], [(-4, -2)]])

    def test_without_instructions(self):
        self.same(self.pure(trace_spans, (("int", "bool"), (), (A,))), [[(0, 0), (0, 0)]])
        self.same(trace_spans(((), (), ())), [[]])

    def test_rows_are_different_lists(self):
        flat = (("int",), ((-1, "fail"), (-1, "halt")), ())
        rows = trace_spans(flat)
        self.same(rows, [[(0, 0)]] * 3)
        rows[0].append("changed")
        self.same(rows[1:], [[(0, 0)]] * 2)
        rows[1].append("changed")
        self.same(rows[2], [(0, 0)])

    def test_guards(self):
        flat = (("int", "bool", "bool", "bool"), (
            (-1, "flip", 3, N[1], N[2]), (-1, "split", 1, 2, ("cell", 3)), (1, "set", 0, N[5]),
            (2, "set", 0, ("neg", N[1])), (-1, "split", 1, 2, TRUE), (2, "set", 0, N[9]),
            (1, "set", 0, ("add", A, N[1]))), (A,))
        free = [(0, 0), NEVER, NEVER, UNKNOWN]
        self.same(trace_spans(flat), [
            [(0, 0), NEVER, NEVER, NEVER], free, [(0, 0), UNKNOWN, UNKNOWN, UNKNOWN],
            [(0, 5), UNKNOWN, UNKNOWN, UNKNOWN], [(-1, 5), UNKNOWN, UNKNOWN, UNKNOWN],
            [(-1, 5), ALWAYS, NEVER, UNKNOWN], [(-1, 5), ALWAYS, NEVER, UNKNOWN],
            [(0, 6), ALWAYS, NEVER, UNKNOWN]])

    def holds(self, flat, choices):
        """The spans hold for the states of a run."""
        rows = trace_spans(flat)
        self.same(rows, reference_spans.trace(flat), flat)
        _, states = walk_flat(flat, choices)
        for row, state in zip(rows, states):
            for cell, (low, high) in enumerate(row):
                self.assertTrue(low <= state[cell] <= high, (flat, choices, cell))
        return len(states)

    def test_the_spans_hold(self):
        steps = 0
        numbers = Numbers(72)
        for flat, choices in flat_programs(71, 2500, 12):
            for _ in range(3):
                steps += self.holds(flat, choices)
                choices = some_choices(numbers)
        self.assertTrue(steps > 20000, steps)

    def test_arguments_stay_as_they_were(self):
        for flat, _ in flat_programs(73, 200, 12):
            rows = self.pure(trace_spans, flat)
            for instruction, row in zip(flat[1], rows):
                self.same(self.pure(spans_after, instruction, row),
                          reference_spans.after(instruction, row))

    def test_an_unrolled_program(self):
        flat = unroll(EXAMPLE_PROGRAM)
        for choices in ([0], [1, 2, 0, 0], [1, 0, 0, 0], [1, 1, 1, 0]):
            self.holds(flat, choices)


if __name__ == "__main__":
    unittest.main()
