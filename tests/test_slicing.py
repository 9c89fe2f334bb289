"""Points 6.9 to 6.12: flat programs without the instructions that do not matter."""

import unittest

from odds.flatrun import weigh_flat
from odds.folding import propagate
from odds.parser import parse_program
from odds.paths import weigh_paths
from odds.slicing import is_safe_instruction, live_cells, slice_flat, thin
from odds.tracing import trace_spans
from odds.unroll import unroll
from tests import reference_spans
from tests.reference import all_paths, answer_of_paths, run_flat_program
from tests.samples import FLAT_CELLS, Cells, flat_instruction, flat_programs, sound_programs
from tests.support import EXAMPLE_PROGRAM, Case, Numbers

LIMIT = 999999999
N = [("num", number) for number in range(70)]
A, B, C, D = [("cell", cell) for cell in range(4)]
TRUE, FALSE = ("true",), ("false",)
NEVER, ALWAYS, UNKNOWN = (0, 0), (1, 1), (0, 1)
BAD = ("div", ("num", 1), ("num", 0))
BAD_TRUTH = ("eq", BAD, BAD)


class SafeInstructionTest(Case):

    def safe(self, action, spans, expected):
        """The guard does not matter."""
        spans = [*spans, NEVER, UNKNOWN, ALWAYS]
        for guard in (-1, len(spans) - 3, len(spans) - 2, len(spans) - 1):
            self.same(self.pure(is_safe_instruction, (guard, *action), spans), expected,
                      (action, spans))

    def test_set_and_split(self):
        self.safe(("set", 0, ("add", A, B)), [(0, 1), (0, 1)], True)
        self.safe(("set", 0, ("add", A, B)), [(0, LIMIT), (0, 1)], False)
        self.safe(("set", 0, ("div", A, B)), [(0, LIMIT), (0, 1)], False)
        self.safe(("set", 0, FALSE), [(0, 1), (0, 1)], True)
        self.safe(("split", 0, 1, ("lt", A, B)), [(0, 1), (0, 1)], True)
        self.safe(("split", 0, 1, BAD_TRUTH), [(0, 1), (0, 1)], False)

    def test_store(self):
        for span, expected in (((0, 2), True), ((1, 1), True), ((-1, 2), False), ((0, 3), False),
                               ((-1, -1), False), ((3, 3), False)):
            self.safe(("store", 1, 3, A, N[1]), [span, NEVER, NEVER, NEVER], expected)
        self.safe(("store", 1, 3, A, BAD), [(0, 2)], False)
        self.safe(("store", 1, 3, ("mul", N[0], BAD), N[1]), [], False)
        self.safe(("store", 1, 1, N[0], N[1]), [NEVER, NEVER], True)

    def test_flip(self):
        for first, second, expected in (
                ((0, 1), (1, 5), True), ((0, 0), (1, 1), True), ((0, 3), (3, 3), True),
                ((1, 1), (1, 1), True), ((-1, 1), (1, 5), False), ((0, 2), (1, 5), False),
                ((0, 0), (0, 5), False), ((0, 0), (0, 0), False), ((-1, -1), (1, 1), False),
                ((0, 4), (3, 3), False)):
            self.safe(("flip", 2, A, B), [first, second, NEVER], expected)
        self.safe(("flip", 0, ("mul", N[0], BAD), N[1]), [NEVER], False)
        self.safe(("flip", 0, N[0], ("add", N[1], ("mul", N[0], BAD))), [NEVER], False)

    def test_uniform(self):
        for first, second, expected in (
                ((0, 3), (3, 5), True), ((3, 3), (3, 3), True), ((0, 3), (2, 5), False),
                ((0, 0), (63, 63), True), ((0, 0), (64, 64), False), ((0, 9), (9, 63), True),
                ((0, 9), (9, 64), False), ((-32, 0), (0, 31), True), ((-32, 0), (0, 32), False),
                ((5, 5), (4, 4), False), ((1, 1), (0, 0), False)):
            self.safe(("uniform", 2, A, B), [first, second, NEVER], expected)
        self.safe(("uniform", 0, ("mul", N[0], BAD), N[1]), [NEVER], False)
        self.safe(("uniform", 0, N[0], ("mul", N[0], BAD)), [NEVER], False)

    def test_pick(self):
        for first, second, expected in (
                ((1, 1), (0, 0), True), ((0, 0), (1, 1), True), ((0, 5), (1, 5), True),
                ((1, 9), (2, 9), True), ((0, 5), (0, 5), False), ((0, 0), (0, 0), False),
                ((-1, 5), (1, 5), False), ((1, 5), (-1, 5), False), ((-1, -1), (5, 5), False)):
            self.safe(("pick", 2, ((N[1], A), (N[2], B))), [first, second, NEVER], expected)
        self.safe(("pick", 0, ((N[1], N[1]),)), [NEVER], True)
        self.safe(("pick", 0, ((N[1], N[0]),)), [NEVER], False)
        # Values count, even those whose weight is zero.
        self.safe(("pick", 0, ((N[1], N[1]), (BAD, N[0]))), [NEVER], False)
        self.safe(("pick", 0, ((BAD, N[1]), (N[1], N[1]))), [NEVER], False)
        self.safe(("pick", 0, ((N[1], N[1]), (N[1], ("mul", N[0], BAD)))), [NEVER], False)
        # A value is no weight: it may be negative.
        self.safe(("pick", 0, ((("neg", N[1]), N[1]), (N[0], N[0]))), [NEVER], True)

    def test_the_others_are_never_safe(self):
        for action in (("observe", TRUE), ("weigh", N[1], N[1]), ("assert", TRUE), ("fail",),
                       ("halt",)):
            self.safe(action, [], False)

    def test_random(self):
        numbers = Numbers(91)
        cells = Cells((0, 2, 3, 4, 6), (1, 5, 7), ((2, 3), (3, 2), (6, 1)))
        spots = [0, 0]
        for _ in range(3000):
            instruction = flat_instruction(numbers, cells)
            spans = []
            for kind in FLAT_CELLS:
                low = numbers.below(2) if kind == "bool" else numbers.below(5) - 1
                spans.append((low, 1) if kind == "bool" else (low, low + numbers.below(3)))
            found = self.pure(is_safe_instruction, instruction, spans)
            self.same(found, reference_spans.safe_instruction(instruction, spans), instruction)
            spots[found] += 1
        self.assertTrue(min(spots) > 500, spots)


class LiveTest(Case):

    def live(self, code, results, rows):
        """The live cells at each place of a flat program."""
        flat = (("int", "int", "bool", "bool", "int", "int"), tuple(code), tuple(results))
        self.same(self.pure(live_cells, flat), rows, code)
        self.same(live_cells(flat), reference_spans.live(flat)[0])
        self.same(slice_flat(flat), reference_spans.live(flat)[1])

    def keeps(self, code, results, indexes):
        """The instructions with these indexes are needed."""
        flat = (("int", "int", "bool", "bool", "int", "int"), tuple(code), tuple(results))
        kept = tuple([code[index] for index in indexes])
        self.same(self.pure(slice_flat, flat), (flat[0], kept, flat[2]))

    def test_example(self):
        flat = (("int", "int"), ((-1, "set", 0, ("num", 1)), (-1, "set", 1, ("num", 2))),
                (("cell", 1),))
        self.same(slice_flat(flat), (("int", "int"), ((-1, "set", 1, ("num", 2)),), (("cell", 1),)))
        self.same(live_cells(flat), [[], [], [1]])

    def test_results(self):
        self.live([], [], [[]])
        self.live([], [("add", B, A), C], [[0, 1, 2]])
        self.live([], [("at", 4, 2, A)], [[0, 4, 5]])
        self.live([(-1, "fail")], [A], [[0], [0]])

    def test_set(self):
        self.live([(-1, "set", 0, ("add", A, B))], [A], [[0, 1], [0]])
        self.live([(-1, "set", 0, B)], [A], [[1], [0]])
        self.live([(-1, "set", 0, B)], [B], [[1], [1]])
        self.live([(-1, "set", 0, B), (-1, "set", 1, N[2])], [A, B], [[1], [0], [0, 1]])
        self.live([(-1, "set", 0, N[1]), (-1, "set", 0, N[2])], [A], [[], [], [0]])
        self.keeps([(-1, "set", 0, N[1]), (-1, "set", 0, N[2])], [A], [1])
        self.keeps([(-1, "set", 0, N[1]), (-1, "set", 1, A), (-1, "set", 4, B)], [("cell", 4)],
                   [0, 1, 2])
        self.keeps([(-1, "set", 0, N[1]), (-1, "set", 1, A), (-1, "set", 4, B)], [B], [0, 1])

    def test_instructions_that_are_not_safe(self):
        self.live([(-1, "set", 0, ("div", A, B))], [], [[0, 1], []])
        self.live([(-1, "observe", C), (2, "assert", D)], [], [[2, 3], [2, 3], []])
        self.live([(-1, "weigh", A, B), (-1, "fail"), (3, "halt")], [], [[0, 1, 3], [3], [3], []])
        self.live([(-1, "pick", 0, ((A, B), (N[1], ("cell", 4))))], [], [[0, 1, 4], []])
        self.keeps([(-1, "set", 0, N[0]), (-1, "set", 1, ("div", A, A)), (-1, "set", 4, A)], [],
                   [0, 1])

    def test_a_guard_keeps_cells_live(self):
        self.live([(2, "set", 0, B)], [A], [[0, 1, 2], [0]])
        self.live([(-1, "set", 0, N[5]), (2, "set", 0, B)], [A], [[1, 2], [0, 1, 2], [0]])
        self.live([(2, "set", 0, N[5]), (-1, "set", 0, B)], [A], [[1], [1], [0]])
        self.live([(2, "split", 2, 3, D)], [C], [[2, 3], [2]])
        self.live([(2, "flip", 3, N[1], N[2])], [D], [[2, 3], [3]])
        self.live([(3, "uniform", 0, N[1], N[2])], [A], [[0, 3], [0]])
        self.live([(3, "pick", 0, ((B, N[2]),))], [A], [[0, 1, 3], [0]])
        # A guard of -1 is no cell, and a guard that surely holds counts all the same.
        self.live([(-1, "set", 2, TRUE), (2, "set", 0, B)], [A], [[0, 1], [0, 1, 2], [0]])

    def test_split(self):
        self.live([(-1, "split", 2, 3, ("lt", A, B))], [C, D], [[0, 1], [2, 3]])
        self.live([(-1, "split", 2, 3, ("lt", A, B))], [C], [[0, 1], [2]])
        self.live([(-1, "split", 2, 3, ("lt", A, B))], [D], [[0, 1], [3]])
        self.live([(-1, "split", 2, 3, ("lt", A, B))], [A], [[0], [0]])
        self.live([(-1, "split", 2, 3, ("not", D))], [C], [[3], [2]])

    def test_draws(self):
        self.live([(-1, "flip", 2, N[1], N[2])], [C], [[], [2]])
        self.live([(-1, "flip", 2, N[1], N[2])], [D], [[3], [3]])
        self.live([(-1, "uniform", 0, A, B)], [A], [[0, 1], [0]])
        self.live([(-1, "uniform", 0, A, B)], [B], [[1], [1]])
        self.live([(-1, "pick", 0, ((B, N[1]), (A, N[2])))], [A], [[0, 1], [0]])
        self.keeps([(-1, "flip", 2, N[1], N[2]), (-1, "flip", 3, N[1], N[2])], [D], [1])
        self.keeps([(-1, "flip", 2, N[3], N[2]), (-1, "flip", 3, N[1], N[2])], [D], [0, 1])
        self.keeps([(-1, "uniform", 0, N[0], N[63]), (-1, "uniform", 0, N[0], N[64])], [], [1])

    def test_arrays(self):
        # A store never makes its cells dead, and any item of a live array will do.
        self.live([(-1, "store", 4, 2, A, B)], [("at", 4, 2, N[0])], [[0, 1, 4, 5], [4, 5]])
        self.live([(-1, "store", 4, 2, N[0], B)], [("cell", 5)], [[1, 5], [5]])
        self.live([(-1, "store", 4, 2, N[0], B)], [("cell", 4)], [[1, 4], [4]])
        self.live([(-1, "store", 4, 1, N[0], B)], [("cell", 4)], [[1, 4], [4]])
        self.live([(-1, "store", 4, 2, N[0], B)], [A], [[0], [0]])
        self.live([(3, "store", 4, 2, N[0], B)], [("cell", 4)], [[1, 3, 4], [4]])
        self.live([(-1, "store", 4, 2, N[2], B)], [A], [[0, 1], [0]])
        self.live([(-1, "set", 0, ("at", 4, 2, B))], [A], [[1, 4, 5], [0]])
        self.keeps([(-1, "set", 4, N[1]), (-1, "set", 5, N[2]), (-1, "set", 0, ("at", 4, 2, B))], [A],
                   [0, 1, 2])

    def test_safety_depends_on_the_spans_before(self):
        self.keeps([(-1, "set", 0, N[1]), (-1, "set", 1, ("div", N[5], A)), (-1, "set", 0, N[0])], [],
                   [])
        self.keeps([(-1, "set", 0, N[1]), (-1, "set", 0, N[0]), (-1, "set", 1, ("div", N[5], A))], [],
                   [1, 2])

    def test_an_instruction_that_is_not_needed_changes_no_spans(self):
        # An impossible guard does not make an instruction safe.
        self.live([(2, "fail")], [], [[2], []])
        self.live([(2, "set", 0, BAD)], [], [[2], []])
        self.keeps([(2, "fail"), (2, "set", 0, N[1])], [], [0])

    def test_random(self):
        cut = 0
        for flat, _ in flat_programs(92, 2500, 12):
            rows, sliced = reference_spans.live(flat)
            self.same(self.pure(live_cells, flat), rows, flat)
            self.same(self.pure(slice_flat, flat), sliced, flat)
            cut += len(sliced[1]) < len(flat[1])
            self.same(thin(flat), reference_spans.live(reference_spans.propagated(flat))[1])
        self.assertTrue(cut > 800, cut)

    def test_lists_are_different(self):
        rows = live_cells((("int",), ((-1, "fail"), (-1, "halt")), (A,)))
        self.same(rows, [[0]] * 3)
        rows[0].append("changed")
        self.same(rows[1:], [[0]] * 2)


class SameAnswerTest(Case):

    def compare(self, flat):
        answer = weigh_flat(flat)
        for smaller in (slice_flat(flat), propagate(flat), self.pure(thin, flat)):
            self.same(weigh_flat(smaller), answer, flat)
        self.same(thin(flat), slice_flat(propagate(flat)))
        return answer

    def test_fewer_draws(self):
        flat = unroll(parse_program(
            "int x; int y; bool b; main 0 { x ~ uniform(1, 6); y ~ uniform(1, 64); "
            "b ~ flip(1, 2); if b { y := y + 1; } else { y := y - 1; } observe x != 6; } return x;"))
        self.assertEqual(len(slice_flat(flat)[1]), 2)
        self.same(self.compare(flat), (tuple([((k,), (1, 6)) for k in range(1, 6)]), (1, 6), (0, 1),
                                       (0, 1)))

    def test_propagation_helps_slicing(self):
        flat = unroll(parse_program(
            "int x; int y; main 0 { x := 3; y := 4; if x < y { x := x + y; } else { fail; } } "
            "return x;"))
        self.same(thin(flat), (flat[0], (), (("num", 7),)))
        self.same(len(slice_flat(flat)[1]), 5)

    def test_random(self):
        compared = 0
        for flat, _ in flat_programs(93, 1200, 12):
            found = all_paths(run_flat_program, flat, 100)
            if found is not None:
                compared += 1
                self.same(self.compare(flat), answer_of_paths(found), flat)
        self.assertTrue(compared > 1000)

    def test_unrolled_programs(self):
        self.compare(unroll(EXAMPLE_PROGRAM))
        for program, _ in sound_programs(94, 500):
            flat = unroll(program)
            if all_paths(run_flat_program, flat, 60) is not None:
                self.same(self.compare(flat), weigh_paths(program), program)

    def test_the_spans_of_thinned_programs(self):
        # Thinning again may use the spans of the thinned program; the answer stays.
        for flat, _ in flat_programs(95, 200, 12):
            thinner = thin(thin(flat))
            self.assertEqual(len(trace_spans(thinner)), len(thinner[1]) + 1)
            if all_paths(run_flat_program, flat, 100) is not None:
                self.same(weigh_flat(thinner), weigh_flat(flat))


if __name__ == "__main__":
    unittest.main()
