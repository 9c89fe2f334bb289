"""Points 4.7 and 4.8: all paths of a program, and its answer."""

import inspect
import unittest

from odds.parser import parse_program
from odds.paths import count_paths, paths, weigh_paths
from tests.reference import all_paths, answer_of_paths, run_program, total_of
from tests.samples import sound_programs
from tests.support import EXAMPLE_PROGRAM, Case, few_calls, soon

NONE, ONE, HALF = (0, 1), (1, 1), (1, 2)


def program_of(statements, results="", before="", fuel=0):
    return parse_program(f"int x; int y; bool b; array t[2]; {before} main {fuel} "
                         f"{{ {statements} }} return {results};")


class PathsTest(Case):

    def walks(self, statements, expected, **more):
        """The program has these paths."""
        program = program_of(statements, **more)
        self.same(list(paths(program)), expected)
        self.same(self.pure(count_paths, program), len(expected))

    def test_a_generator(self):
        self.assertTrue(inspect.isgeneratorfunction(paths))
        self.assertTrue(inspect.isgenerator(paths(program_of("fail;"))))
        # It does not look for all of them before it gives the first one.
        found = paths(program_of("repeat 60 { b ~ flip(1, 2); }"))
        self.same(soon(next, found), (0,) * 60)
        self.same(soon(next, found), (0,) * 59 + (1,))
        self.same(soon(next, found), (0,) * 58 + (1, 0))

    def test_two_generators_of_one_program(self):
        program = program_of("x ~ uniform(1, 3); t[0] := x + t[0];")
        first, second = paths(program), paths(program)
        self.same([next(first), next(second), next(first), next(second), next(first)],
                  [(0,), (0,), (1,), (1,), (2,)])
        self.same(list(first), [])
        self.same(list(second), [(2,)])

    def test_without_draws(self):
        self.walks("", [()])
        self.walks("fail;", [()])
        self.walks("observe false; b ~ flip(1, 2);", [()])
        self.walks("while true max 0 { }", [()])
        self.walks("b ~ flip(2, 1);", [()])

    def test_ascending(self):
        self.walks("b ~ flip(1, 2); x ~ uniform(1, 3);",
                   [(0, 0), (0, 1), (0, 2), (1, 0), (1, 1), (1, 2)])
        self.walks("b ~ flip(1, 2); if b { x ~ uniform(1, 3); }", [(0, 0), (0, 1), (0, 2), (1,)])
        self.walks("b ~ flip(1, 2); if not b { x ~ uniform(1, 3); }",
                   [(0,), (1, 0), (1, 1), (1, 2)])
        self.walks("x ~ uniform(0, 63);", [(k,) for k in range(64)])

    def test_a_mass_of_zero(self):
        self.walks("b ~ flip(0, 2); b ~ flip(2, 2);", [(0, 0), (0, 1), (1, 0), (1, 1)])
        self.walks("x ~ pick(1 : 0, 2 : 1, 1 div y : 0); weigh(1, 1);",
                   [(0, 0), (0, 1), (1, 0), (1, 1), (2,)])

    def test_one_alternative(self):
        self.walks("x ~ uniform(4, 4); x ~ pick(1 : 7);", [(0, 0)])

    def test_each_end(self):
        self.walks("x ~ uniform(0, 3); if x = 0 { fail; } if x = 1 { observe false; } "
                   "if x = 2 { while true max 0 { } } b ~ flip(1, 2);",
                   [(0,), (1,), (2,), (3, 0), (3, 1)])
        self.walks("weigh(1, 3); x ~ uniform(0, 1);", [(0, 0), (0, 1), (1,)])
        self.walks("x ~ uniform(0, 1); b ~ flip(1, x);", [(0,), (1, 0), (1, 1)])

    def test_variables_do_not_leak_from_path_to_path(self):
        self.walks("t[0] := 1; repeat 2 { b ~ flip(1, 2); if b { t[0] := t[0] + 1; x := x + 1; } }"
                   " if t[0] = 3 { y ~ uniform(x, 4); } if x = 1 { y ~ uniform(1, t[0]); }",
                   [(0, 0, 0), (0, 0, 1), (0, 0, 2), (0, 1, 0), (0, 1, 1), (1, 0, 0), (1, 0, 1),
                    (1, 1)])

    def test_calls(self):
        self.walks("call f(0) to x; call f(x) to y;", [
            (0, 0), (0, 1, 0), (0, 1, 1, 0), (0, 1, 1, 1), (1, 0, 0), (1, 0, 1), (1, 1)],
            fuel=2, before="proc f(int n) int { int k; bool h; h ~ flip(1, 2); if h = (n = 0) "
            "{ call g() to k; } return k; } proc g() int { int h; h ~ uniform(0, 1); "
            "if x + h = 0 and y = 0 { call f(h + 1) to h; } return h; }")

    def test_many(self):
        program = program_of("repeat 12 { b ~ flip(1, 2); }")
        self.same(soon(count_paths, program), 4096)


class AnswerTest(Case):

    def weighs(self, statements, results, answer, **more):
        program = program_of(statements, results, **more)
        self.same(self.pure(weigh_paths, program), answer)
        self.assertEqual(total_of(answer), 1)

    def test_example(self):
        program = parse_program(
            "int x; main 0 { x ~ uniform(1, 3); observe x < 3; } return x;")
        self.same(weigh_paths(program), ((((1,), (1, 3)), ((2,), (1, 3))), (1, 3), NONE, NONE))

    def test_one_outcome(self):
        self.weighs("x := 3;", "x, b", ((((3, False), ONE),), NONE, NONE, NONE))
        self.weighs("observe false;", "x", ((), ONE, NONE, NONE))
        self.weighs("while true max 2 { }", "x", ((), NONE, ONE, NONE))
        self.weighs("fail;", "x", ((), NONE, NONE, ONE))
        self.weighs("", "1 div x", ((), NONE, NONE, ONE))

    def test_keys_of_length_zero(self):
        self.weighs("", "", ((((), ONE),), NONE, NONE, NONE))
        self.weighs("x ~ uniform(1, 4); observe x < 4;", "", ((((), (3, 4)),), (1, 4), NONE, NONE))

    def test_all_outcomes(self):
        self.weighs("x ~ uniform(0, 9); observe x != 0; assert x != 1 and x != 2; "
                    "if 2 < x and x < 6 { while true max 3 { } }", "x div 8",
                    ((((0,), (1, 5)), ((1,), (1, 5))), (1, 10), (3, 10), (1, 5)))

    def test_equal_results_are_added(self):
        self.weighs("repeat 3 { b ~ flip(1, 3); if b { x := x + 1; } }", "x", (
            (((0,), (8, 27)), ((1,), (4, 9)), ((2,), (2, 9)), ((3,), (1, 27))), NONE, NONE, NONE))

    def test_the_table_is_ascending(self):
        self.weighs("b ~ flip(1, 2); x ~ uniform(-1, 0);", "b, x", (
            (((False, -1), (1, 4)), ((False, 0), (1, 4)), ((True, -1), (1, 4)),
             ((True, 0), (1, 4))), NONE, NONE, NONE))
        self.weighs("b ~ flip(1, 2); if b { x := -7; }", "x, b", (
            (((-7, True), HALF), ((0, False), HALF)), NONE, NONE, NONE))

    def test_sums_of_zero_are_left_out(self):
        self.weighs("b ~ flip(0, 2);", "b", ((((False,), ONE),), NONE, NONE, NONE))
        self.weighs("x ~ pick(1 : 0, 2 : 3, 3 : 0, 4 : 1);", "x",
                    ((((2,), (3, 4)), ((4,), (1, 4))), NONE, NONE, NONE))
        self.weighs("b ~ flip(0, 2); observe not b; b ~ flip(1, 1); assert b; observe b;", "x",
                    ((((0,), ONE),), NONE, NONE, NONE))
        self.weighs("b ~ flip(1, 1); observe not b;", "x", ((), ONE, NONE, NONE))

    def test_weigh(self):
        self.weighs("x ~ uniform(1, 3); weigh(x, 3);", "x", (
            (((1,), (1, 9)), ((2,), (2, 9)), ((3,), (1, 3))), (1, 3), NONE, NONE))

    def test_the_example_of_printing(self):
        found = all_paths(run_program, EXAMPLE_PROGRAM)
        self.same(weigh_paths(EXAMPLE_PROGRAM), answer_of_paths(found))
        self.same(list(paths(EXAMPLE_PROGRAM)), [choices for choices, _ in found])

    def test_random(self):
        walked = 0
        for program, _ in sound_programs(11, 3000):
            found = all_paths(run_program, program, 100)
            if found is None:
                continue
            walked += len(found)
            expected = [choices for choices, _ in found]
            self.same(list(paths(program)), expected, program)
            self.same(count_paths(program), len(expected))
            answer = weigh_paths(program)
            self.same(answer, answer_of_paths(found), program)
            self.assertEqual(total_of(answer), 1)
        self.assertTrue(walked > 5000, walked)

    def test_deep_blocks(self):
        block = (("flip", "b", ("num", 1), ("num", 2)),)
        for _ in range(23):
            block = (("repeat", 1, block), ("skip",))
        program = ((("bool", "b", 0),), (), 0, block, (("var", "b"),))
        for _ in range(2):
            self.same(few_calls(weigh_paths, program),
                      ((((False,), HALF), ((True,), HALF)), NONE, NONE, NONE))
            self.same(few_calls(count_paths, program), 2)
            self.same(few_calls(lambda: list(paths(program))), [(0,), (1,)])

    def test_many_draws_on_one_path(self):
        program = program_of("b := true; while b max 100 { b ~ flip(1, 2); x := x + 1; }", "x")
        answer = soon(few_calls, weigh_paths, program)
        self.same(answer[0][:2] + answer[0][-1:],
                  (((1,), HALF), ((2,), (1, 4)), ((100,), (1, 2 ** 100))))
        self.same(answer[1:], (NONE, (1, 2 ** 100), NONE))


if __name__ == "__main__":
    unittest.main()
