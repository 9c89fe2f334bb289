"""Points 6.7 and 6.8: simpler expressions and simpler flat programs."""

import unittest

from odds.errors import Fault
from odds.flat import evaluate_flat
from odds.flatrun import flat_paths, run_flat, weigh_flat
from odds.folding import fold, propagate
from odds.parser import parse_program
from odds.tracing import trace_spans
from odds.unroll import unroll
from tests import reference_spans
from tests.reference import all_paths, run_flat_program
from tests.samples import Cells, flat_programs, sound_programs, some_choices, tree_of
from tests.support import EXAMPLE_PROGRAM, Case, Numbers, few_calls

LIMIT = 999999999
N = [("num", number) for number in range(10)]
# Numbers, then truths.
KINDS = ("int", "int", "int", "bool", "bool", "bool")
A, B, C, P, Q, R = [("cell", cell) for cell in range(6)]
TRUE, FALSE = ("true",), ("false",)
NEVER, ALWAYS, UNKNOWN = (0, 0), (1, 1), (0, 1)
WIDE = [(-9, 9)] * 3 + [UNKNOWN] * 3
# They fault in some states, but their spans consist of one integer.
BAD = ("mul", N[0], ("div", N[1], A))
BAD_TRUTH = ("lt", ("mod", A, B), ("num", LIMIT))


class FoldTest(Case):

    def folds(self, tree, expected, spans=None):
        spans = WIDE if spans is None else spans
        self.same(self.pure(fold, tree, list(spans), KINDS), expected, (tree, spans))

    def test_example(self):
        tree = ("and", ("lt", ("cell", 0), ("num", 5)), ("cell", 1))
        self.same(fold(tree, [(0, 3), (0, 1)], ("int", "bool")), ("cell", 1))

    def test_literals(self):
        for number, tree in ((0, N[0]), (7, N[7]), (-7, ("neg", N[7])), (-1, ("neg", N[1])),
                             (LIMIT, ("num", LIMIT)), (-LIMIT, ("neg", ("num", LIMIT)))):
            self.folds(A, tree, [(number, number), *WIDE[1:]])
            self.folds(tree, tree)
        self.folds(P, TRUE, [*WIDE[:3], ALWAYS, *WIDE[4:]])
        self.folds(P, FALSE, [*WIDE[:3], NEVER, *WIDE[4:]])
        self.folds(TRUE, TRUE)
        self.folds(FALSE, FALSE)
        self.folds(("neg", N[0]), N[0])
        self.folds(("neg", ("neg", N[3])), N[3])
        self.folds(("add", N[1], ("mul", N[2], N[3])), N[7])
        self.folds(("sub", N[1], N[3]), ("neg", N[2]))

    def test_kinds_of_literals(self):
        one = [(1, 1), (0, 0), (1, 1), ALWAYS, NEVER, UNKNOWN]
        for tree, expected in (
                (A, N[1]), (P, TRUE), (Q, FALSE), (B, N[0]), (("eq", A, C), TRUE),
                (("ne", A, C), FALSE), (("lt", A, B), FALSE), (("le", A, C), TRUE),
                (("not", P), FALSE), (("and", P, P), TRUE), (("or", Q, Q), FALSE),
                (("min", A, C), N[1]), (("mod", A, C), N[0]), (("div", A, C), N[1]),
                (("cond", P, A, B), N[1]), (("cond", R, A, C), N[1]), (("cond", R, P, P), TRUE),
                (("cond", R, ("cond", R, Q, Q), Q), FALSE), (("at", 0, 2, A), N[0]),
                (("at", 0, 1, B), N[1])):
            self.folds(tree, expected, one)

    def test_expressions_stay(self):
        for tree in (A, P, ("neg", A), ("not", P), ("add", A, N[1]), ("sub", A, B), ("mul", A, B),
                     ("div", A, B), ("mod", A, B), ("min", A, B), ("max", A, B), ("eq", A, B),
                     ("ne", P, Q), ("lt", A, B), ("le", A, B), ("and", P, Q), ("or", P, Q),
                     ("cond", P, A, B), ("at", 0, 3, A)):
            self.folds(tree, tree)

    def test_parts_are_folded(self):
        big = ("add", N[1], N[2])
        for tag in ("add", "sub", "mul", "div", "mod", "min", "max", "eq", "ne", "lt", "le"):
            self.folds((tag, big, A), (tag, N[3], A))
            self.folds((tag, A, ("neg", big)), (tag, A, ("neg", N[3])))
        self.folds(("neg", ("add", A, big)), ("neg", ("add", A, N[3])))
        self.folds(("not", ("eq", A, big)), ("not", ("eq", A, N[3])))
        self.folds(("at", 0, 3, ("add", A, big)), ("at", 0, 3, ("add", A, N[3])))
        self.folds(("at", 0, 3, big), ("at", 0, 3, N[3]))
        self.folds(("cond", ("or", P, ("not", TRUE)), big, ("sub", N[1], A)),
                   ("cond", ("or", P, FALSE), N[3], ("sub", N[1], A)))

    def test_one_integer_but_not_safe(self):
        self.folds(BAD, ("mul", N[0], ("div", N[1], A)))
        self.folds(BAD_TRUTH, BAD_TRUTH)
        self.folds(("mod", N[4], N[0]), ("mod", N[4], N[0]))
        self.folds(("at", 0, 1, N[1]), ("at", 0, 1, N[1]))
        self.folds(("add", ("num", LIMIT), N[1]), ("add", ("num", LIMIT), N[1]))
        self.folds(("add", BAD, ("sub", N[3], N[1])), ("add", BAD, N[2]))

    def test_and_and_or(self):
        self.folds(("and", TRUE, P), P)
        self.folds(("or", FALSE, P), P)
        self.folds(("and", ("not", FALSE), ("or", Q, ("not", TRUE))), ("or", Q, FALSE))
        self.folds(("and", ("le", A, N[9]), ("eq", B, ("add", N[1], N[1]))), ("eq", B, N[2]))
        self.folds(("and", P, TRUE), ("and", P, TRUE))
        self.folds(("or", P, FALSE), ("or", P, FALSE))
        self.folds(("and", FALSE, P), FALSE)
        self.folds(("or", TRUE, P), TRUE)
        self.folds(("and", P, FALSE), FALSE)
        self.folds(("or", P, TRUE), TRUE)
        # The first part has become a literal through another one.
        self.folds(("and", ("and", TRUE, TRUE), P), P)
        self.folds(("or", ("or", FALSE, ("and", FALSE, P)), P), P)

    def test_a_part_that_decides_and_one_that_may_fault(self):
        self.folds(("and", FALSE, BAD_TRUTH), FALSE)
        self.folds(("or", TRUE, BAD_TRUTH), TRUE)
        self.folds(("and", TRUE, BAD_TRUTH), BAD_TRUTH)
        self.folds(("or", FALSE, BAD_TRUTH), BAD_TRUTH)
        self.folds(("and", BAD_TRUTH, P), ("and", BAD_TRUTH, P))
        self.folds(("or", BAD_TRUTH, P), ("or", BAD_TRUTH, P))
        # The second part decides, but the first one may fault.
        self.folds(("and", BAD_TRUTH, FALSE), ("and", BAD_TRUTH, FALSE))
        self.folds(("or", BAD_TRUTH, TRUE), ("or", BAD_TRUTH, TRUE))
        self.folds(("and", P, BAD_TRUTH), ("and", P, BAD_TRUTH))
        self.folds(("cond", BAD_TRUTH, A, A), ("cond", BAD_TRUTH, A, A))
        self.folds(("cond", BAD_TRUTH, N[1], N[1]), ("cond", BAD_TRUTH, N[1], N[1]))

    def test_cond(self):
        self.folds(("cond", TRUE, A, B), A)
        self.folds(("cond", FALSE, A, B), B)
        self.folds(("cond", TRUE, ("add", A, ("sub", N[3], N[1])), BAD), ("add", A, N[2]))
        self.folds(("cond", FALSE, BAD, ("add", A, ("sub", N[3], N[1]))), ("add", A, N[2]))
        self.folds(("cond", TRUE, N[4], BAD), N[4])
        self.folds(("cond", TRUE, BAD, N[4]), BAD)
        self.folds(("cond", ("le", A, N[9]), P, Q), P)
        self.folds(("cond", ("lt", N[9], A), P, Q), Q)
        self.folds(("cond", P, N[4], N[4]), N[4])
        self.folds(("cond", P, TRUE, ("or", TRUE, BAD_TRUTH)), TRUE)
        self.folds(("cond", P, N[4], N[5]), ("cond", P, N[4], N[5]))

    def test_forty_levels(self):
        tree = A
        for level in range(39):
            tree = ("sub", tree, ("num", 1)) if level % 2 else ("cond", P, tree, N[1])
        self.same(few_calls(fold, tree, WIDE, KINDS), tree)
        self.same(few_calls(fold, tree, [(3, 3), *WIDE[1:3], ALWAYS, *WIDE[4:]], KINDS),
                  ("neg", ("num", 16)))

    def test_random(self):
        numbers = Numbers(81)
        kinds = ("int", "bool", "int", "int", "int", "bool")
        cells = Cells((0, 2, 3, 4), (1, 5), ((2, 3), (3, 1)))
        changed = 0
        for _ in range(3000):
            tree = tree_of(numbers, numbers.one_of(("int", "bool")), 1 + numbers.below(5), cells)
            spans, state = [], []
            for kind in kinds:
                low = numbers.below(2) if kind == "bool" else numbers.below(5) - 2
                high = min(1, low + numbers.below(2)) if kind == "bool" else low + numbers.below(3)
                spans.append((low, high))
                value = low + numbers.below(high - low + 1)
                state.append(value == 1 if kind == "bool" else value)
            simpler = self.pure(fold, tree, spans, kinds)
            self.same(simpler, reference_spans.folded(tree, spans, kinds), (tree, spans))
            changed += simpler != tree
            try:
                value = evaluate_flat(tree, state)
            except Fault:
                self.refuses(Fault, evaluate_flat, simpler, state)
            else:
                self.same(evaluate_flat(simpler, state), value)
        self.assertTrue(changed > 1000)


class PropagateTest(Case):

    def gives(self, code, expected, results=(), simpler=()):
        """The code becomes the expected one, and likewise the results."""
        flat = (KINDS, tuple(code), tuple(results))
        self.same(self.pure(propagate, flat), (KINDS, tuple(expected), tuple(simpler)))

    def test_guards(self):
        flip = (-1, "flip", 3, N[1], N[2])
        self.gives([(3, "set", 0, N[1])], [])
        self.gives([(3, "fail"), (4, "halt"), (5, "flip", 3, N[1], N[2])], [])
        self.gives([flip, (3, "fail")], [flip, (3, "fail")])
        self.gives([(-1, "set", 3, TRUE), (3, "fail"), (4, "fail"), (3, "halt")],
                   [(-1, "set", 3, TRUE), (-1, "fail"), (-1, "halt")])
        self.gives([flip, (-1, "split", 4, 5, ("not", FALSE)), (4, "set", 0, N[2]),
                    (5, "set", 0, N[3]), (3, "set", 0, N[4])],
                   [flip, (-1, "split", 4, 5, TRUE), (-1, "set", 0, N[2]), (3, "set", 0, N[4])])

    def test_expressions_of_each_instruction(self):
        big, small, truth = ("add", N[1], N[2]), N[3], ("not", FALSE)
        flips = [(-1, "flip", 3, N[1], N[2]), (-1, "uniform", 0, N[0], N[2])]
        for action, simpler in (
                (("set", 1, big), ("set", 1, small)),
                (("store", 1, 2, ("sub", big, N[2]), big), ("store", 1, 2, N[1], small)),
                (("store", 1, 2, A, ("neg", big)), ("store", 1, 2, A, ("neg", N[3]))),
                (("flip", 4, big, ("mul", big, N[2])), ("flip", 4, small, N[6])),
                (("uniform", 1, ("neg", big), big), ("uniform", 1, ("neg", N[3]), small)),
                (("pick", 1, ((big, ("sub", N[1], N[1])), (("add", A, big), big))),
                 ("pick", 1, ((small, N[0]), (("add", A, small), small)))),
                (("pick", 4, ((truth, big),)), ("pick", 4, ((TRUE, small),))),
                (("observe", ("and", truth, P)), ("observe", P)),
                (("assert", ("and", truth, P)), ("assert", P)),
                (("weigh", big, ("mul", big, big)), ("weigh", small, N[9])),
                (("split", 4, 5, ("and", truth, P)), ("split", 4, 5, P)),
                (("fail",), ("fail",)), (("halt",), ("halt",))):
            for guard in (-1, 3):
                self.gives([*flips, (guard, *action)], [*flips, (guard, *simpler)])

    def test_checks_that_hold_are_left_out(self):
        flip = (-1, "flip", 3, N[1], N[2])
        for tag in ("observe", "assert"):
            self.gives([(-1, tag, TRUE), (-1, tag, ("le", A, B))], [])
            self.gives([flip, (3, tag, TRUE)], [flip])
            self.gives([(-1, tag, FALSE)], [(-1, tag, FALSE)])
            self.gives([flip, (3, tag, ("not", TRUE))], [flip, (3, tag, FALSE)])
            self.gives([flip, (-1, tag, P)], [flip, (-1, tag, P)])
        # Only these two are left out.
        self.gives([(-1, "set", 3, TRUE), (-1, "weigh", N[1], N[1]), (-1, "split", 3, 4, TRUE)],
                   [(-1, "set", 3, TRUE), (-1, "weigh", N[1], N[1]), (-1, "split", 3, 4, TRUE)])

    def test_results(self):
        self.gives([(-1, "set", 0, N[4]), (-1, "uniform", 1, N[1], N[2])],
                   [(-1, "set", 0, N[4]), (-1, "uniform", 1, N[1], N[2])],
                   [A, B, ("add", A, B), ("lt", B, A), ("neg", A), C],
                   [N[4], B, ("add", N[4], B), TRUE, ("neg", N[4]), N[0]])
        self.gives([], [], [A, P, ("cond", P, A, ("div", A, A))], [N[0], FALSE, ("div", N[0], N[0])])

    def test_the_spans_are_those_of_the_program_itself(self):
        # An instruction that is left out has changed no span.
        self.gives([(3, "set", 0, N[5]), (-1, "set", 1, ("add", A, N[1])), (-1, "set", 0, N[5]),
                    (-1, "set", 1, ("add", A, B))],
                   [(-1, "set", 1, N[1]), (-1, "set", 0, N[5]), (-1, "set", 1, N[6])])

    def test_no_instructions(self):
        self.gives([], [])
        self.same(propagate(((), (), ())), ((), (), ()))

    def test_random(self):
        numbers = Numbers(83)
        changed = 0
        for flat, choices in flat_programs(82, 2500, 12):
            simpler = propagate(flat)
            self.same(simpler, reference_spans.propagated(flat), flat)
            changed += len(simpler[1]) < len(flat[1])
            for _ in range(3):
                self.same(run_flat(simpler, choices), run_flat_program(flat, choices),
                          (flat, choices))
                choices = some_choices(numbers)
        self.assertTrue(changed > 500)

    def test_random_paths(self):
        for flat, _ in flat_programs(84, 500, 12):
            found = all_paths(run_flat_program, flat, 100)
            if found is None:
                continue
            simpler = self.pure(propagate, flat)
            self.same(list(flat_paths(simpler)), [choices for choices, _ in found])
            self.same(weigh_flat(simpler), weigh_flat(flat))

    def test_unrolled_programs(self):
        program = parse_program("int x; bool b; main 0 { for x from 1 to 3 { if x = 2 { fail; } "
                                "while x < 2 max 1 { b ~ flip(x, 3); x := x + 1; } } } return b;")
        samples = [EXAMPLE_PROGRAM, program] + [program for program, _ in sound_programs(85, 400)]
        numbers = Numbers(86)
        for program in samples:
            flat = unroll(program)
            simpler = propagate(flat)
            self.assertEqual(len(trace_spans(flat)), len(flat[1]) + 1)
            for _ in range(4):
                choices = some_choices(numbers)
                self.same(run_flat(simpler, choices), run_flat(flat, choices), program)


if __name__ == "__main__":
    unittest.main()
