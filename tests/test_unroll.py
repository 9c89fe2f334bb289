"""Points 5.8 and 5.9: flat programs from programs."""

import unittest

from odds.checks import check_program
from odds.errors import TooLarge
from odds.flatrun import flat_paths, run_flat, weigh_flat
from odds.machine import run
from odds.parser import parse_program
from odds.paths import paths, weigh_paths
from odds.sizes import code_size
from odds.unroll import unroll
from tests.reference import all_paths, run_program
from tests.samples import some_choices, sound_program, sound_programs
from tests.support import EXAMPLE_PROGRAM, Case, Numbers, few_calls, soon

# The cells of these names: x 0, b 1, t 2 to 4, y 5.
NAMES = "int x; bool b; array t[3]; int y; "
KINDS = ("int", "bool", "int", "int", "int", "int")
X, B, Y = ("cell", 0), ("cell", 1), ("cell", 5)
N = [("num", number) for number in range(10)]
TRUE, FALSE = ("true",), ("false",)


def program_of(statements, results="", fuel=0, procedures=""):
    program = parse_program(f"{NAMES}{procedures} main {fuel} {{ {statements} }} return {results};")
    check_program(program)
    return program


class UnrollTest(Case):

    def gives(self, statements, new_kinds, code, fuel=0, procedures=""):
        """The statements give this code, with these cells behind those of the names."""
        program = program_of(statements, "", fuel, procedures)
        self.same(self.pure(unroll, program), (KINDS + tuple(new_kinds), tuple(code), ()))
        self.same(code_size(program), len(code))

    def test_example(self):
        program = parse_program("bool b; main 0 { b ~ flip(1, 2); if b { fail; } } return b;")
        self.same(unroll(program), (
            ("bool", "bool", "bool"),
            ((-1, "flip", 0, N[1], N[2]), (-1, "split", 1, 2, ("cell", 0)), (1, "fail")),
            (("cell", 0),)))

    def test_declarations_and_results(self):
        self.same(unroll(program_of("", "y, x + t[y], b and not b, t[0]")), (
            KINDS, (),
            (Y, ("add", X, ("at", 2, 3, Y)), ("and", B, ("not", B)), ("at", 2, 3, N[0]))))
        self.same(unroll(parse_program("main 0 { } return;")), ((), (), ()))
        self.same(unroll(parse_program("array a[2]; array z[1]; bool x; main 0 { } return z[0], x;")),
                  (("int", "int", "int", "bool"), (), (("at", 2, 1, N[0]), ("cell", 3))))

    def test_simple_statements(self):
        self.gives("skip; x := 1; skip; b := true;", [],
                   [(-1, "set", 0, N[1]), (-1, "set", 1, TRUE)])
        self.gives("t[x] := y;", [], [(-1, "store", 2, 3, X, Y)])
        self.gives("b ~ flip(x, 3); y ~ uniform(x, t[0]);", [], [
            (-1, "flip", 1, X, N[3]), (-1, "uniform", 5, X, ("at", 2, 3, N[0]))])
        self.gives("y ~ pick(x : 1, 2 : y);", [], [(-1, "pick", 5, ((X, N[1]), (N[2], Y)))])
        self.gives("b ~ pick(b : x);", [], [(-1, "pick", 1, ((B, X),))])
        self.gives("observe b; weigh(x, y); assert not b; fail;", [], [
            (-1, "observe", B), (-1, "weigh", X, Y), (-1, "assert", ("not", B)), (-1, "fail")])

    def test_if(self):
        self.gives("if b { } else { }", ["bool"] * 2, [(-1, "split", 6, 7, B)])
        self.gives("if b { x := 1; } else { x := 2; y := 3; } x := 4;", ["bool"] * 2, [
            (-1, "split", 6, 7, B), (6, "set", 0, N[1]), (7, "set", 0, N[2]), (7, "set", 5, N[3]),
            (-1, "set", 0, N[4])])

    def test_if_inside_if(self):
        self.gives("if b { if x = 0 { x := 1; } else { x := 2; } x := 3; } else { if y < 1 { fail; } }",
                   ["bool"] * 6, [
                       (-1, "split", 6, 7, B), (6, "split", 8, 9, ("eq", X, N[0])),
                       (8, "set", 0, N[1]), (9, "set", 0, N[2]), (6, "set", 0, N[3]),
                       (7, "split", 10, 11, ("lt", Y, N[1])), (10, "fail")])

    def test_repeat(self):
        self.gives("repeat 3 { x := 1; skip; y := 2; }", [],
                   [(-1, "set", 0, N[1]), (-1, "set", 5, N[2])] * 3)
        self.gives("repeat 0 { x := 1; }", [], [])
        self.gives("repeat 1 { x := 1; }", [], [(-1, "set", 0, N[1])])
        # Each time the block asks for new cells.
        self.gives("repeat 2 { if b { fail; } }", ["bool"] * 4, [
            (-1, "split", 6, 7, B), (6, "fail"), (-1, "split", 8, 9, B), (8, "fail")])
        self.gives("if b { repeat 2 { fail; } }", ["bool"] * 2, [
            (-1, "split", 6, 7, B), (6, "fail"), (6, "fail")])

    def test_while(self):
        self.gives("while b max 0 { fail; }", ["bool"] * 2, [(-1, "split", 6, 7, B), (6, "halt")])
        self.gives("while b max 1 { }", ["bool"] * 4, [
            (-1, "split", 6, 7, B), (6, "split", 8, 9, B), (8, "halt")])
        self.gives("while b max 2 { x := 1; y := 2; } y := 3;", ["bool"] * 6, [
            (-1, "split", 6, 7, B), (6, "set", 0, N[1]), (6, "set", 5, N[2]),
            (6, "split", 8, 9, B), (8, "set", 0, N[1]), (8, "set", 5, N[2]),
            (8, "split", 10, 11, B), (10, "halt"), (-1, "set", 5, N[3])])

    def test_while_inside(self):
        self.gives("if b { while x < y max 1 { if b { fail; } x := 1; } x := 2; }", ["bool"] * 8, [
            (-1, "split", 6, 7, B), (6, "split", 8, 9, ("lt", X, Y)), (8, "split", 10, 11, B),
            (10, "fail"), (8, "set", 0, N[1]), (8, "split", 12, 13, ("lt", X, Y)), (12, "halt"),
            (6, "set", 0, N[2])])
        self.gives("while b max 1 { while x < y max 0 { } }", ["bool"] * 6, [
            (-1, "split", 6, 7, B), (6, "split", 8, 9, ("lt", X, Y)), (8, "halt"),
            (6, "split", 10, 11, B), (10, "halt")])

    def test_for(self):
        self.gives("for x from 2 to 4 { y := x; }", [], [
            (-1, "set", 0, N[2]), (-1, "set", 5, X), (-1, "set", 0, N[3]), (-1, "set", 5, X),
            (-1, "set", 0, N[4]), (-1, "set", 5, X)])
        self.gives("for x from 2 to 2 { }", [], [(-1, "set", 0, N[2])])
        self.gives("for x from 2 to 1 { fail; }", [], [])
        self.gives("if b { } else { for y from 0 to 1 { if b { fail; } } }", ["bool"] * 6, [
            (-1, "split", 6, 7, B), (7, "set", 5, N[0]), (7, "split", 8, 9, B), (8, "fail"),
            (7, "set", 5, N[1]), (7, "split", 10, 11, B), (10, "fail")])

    def test_no_call_is_allowed(self):
        self.gives("call f(1 div y) to x; if b { call f(2) to y; }", ["bool"] * 2, [
            (-1, "halt"), (-1, "split", 6, 7, B), (6, "halt")],
            procedures="proc f(int a) int { fail; return a; }")

    def test_call(self):
        self.gives("call f(x + 1, b) to y;", ["int", "bool", "bool", "int"], [
            (-1, "set", 6, ("add", X, N[1])), (-1, "set", 7, B), (-1, "set", 8, FALSE),
            (-1, "set", 9, N[0]), (-1, "set", 9, ("mul", ("cell", 6), X)), (-1, "set", 8, B),
            (-1, "set", 5, ("cond", ("cell", 7), ("cell", 9), ("at", 2, 3, ("cell", 6))))],
            fuel=1, procedures="proc f(int a, bool c) int { bool h; int k; k := a * x; h := b; "
            "return (if c then k else t[a]); }")
        self.gives("call g() to b;", [], [(-1, "set", 1, TRUE)], fuel=1,
                   procedures="proc g() bool { return true; }")

    def test_each_call_has_cells_of_its_own(self):
        self.gives("call f(1) to x; if b { call f(2) to y; }",
                   ["int", "int", "bool", "bool", "int", "int"], [
                       (-1, "set", 6, N[1]), (-1, "set", 7, N[0]), (-1, "set", 7, ("cell", 6)),
                       (-1, "set", 0, ("cell", 7)), (-1, "split", 8, 9, B), (8, "set", 10, N[2]),
                       (8, "set", 11, N[0]), (8, "set", 11, ("cell", 10)), (8, "set", 5, ("cell", 11))],
                   fuel=1, procedures="proc f(int a) int { int k; k := a; return k; }")
        self.gives("repeat 2 { call f(1) to x; }", ["int", "int"], [
            (-1, "set", 6, N[1]), (-1, "set", 0, ("cell", 6)), (-1, "set", 7, N[1]),
            (-1, "set", 0, ("cell", 7))], fuel=1, procedures="proc f(int a) int { return a; }")

    def test_cells_inside_calls(self):
        self.gives("if b { call f(x) to x; }", ["bool", "bool", "int", "int", "bool", "bool"], [
            (-1, "split", 6, 7, B), (6, "set", 8, X), (6, "set", 9, N[0]),
            (6, "split", 10, 11, ("eq", ("cell", 8), N[0])), (10, "set", 9, N[1]), (11, "fail"),
            (6, "set", 0, ("cell", 9))], fuel=2, procedures=(
                "proc f(int a) int { int k; if a = 0 { k := 1; } else { fail; } return k; }"))

    def test_calls_in_calls(self):
        # The target is a local of the caller, whose name the callee has, too.
        self.gives("call f(3) to x;", ["int", "int", "int", "int"], [
            (-1, "set", 6, N[3]), (-1, "set", 7, N[0]),
            (-1, "set", 8, ("add", ("cell", 6), N[1])), (-1, "set", 9, N[0]),
            (-1, "halt"), (-1, "set", 9, ("add", ("cell", 9), ("cell", 8))),
            (-1, "set", 7, ("cell", 9)),
            (-1, "set", 7, ("add", ("cell", 7), ("cell", 6))), (-1, "set", 0, ("cell", 7))],
            fuel=2, procedures="proc f(int a) int { int k; call f(a + 1) to k; k := k + a; "
            "return k; }")
        self.gives("call f() to b;", ["bool", "int"], [
            (-1, "set", 6, FALSE), (-1, "set", 7, N[0]), (-1, "set", 7, N[4]),
            (-1, "set", 6, ("eq", ("cell", 7), N[4])), (-1, "set", 1, ("cell", 6))],
            fuel=2, procedures="proc f() bool { bool k; call g() to k; return k; } "
            "proc g() bool { int k; k := 4; return k = 4; }")
        self.gives("call f() to x;", ["int"], [
            (-1, "set", 6, N[0]), (-1, "halt"), (-1, "set", 0, ("cell", 6))],
            fuel=1, procedures="proc f() int { int k; call f() to k; return k; }")

    def test_calls_one_after_the_other(self):
        # A call that has ended counts no more.
        self.gives("call f() to x; call f() to y;", [], [
            (-1, "set", 0, N[1]), (-1, "set", 0, N[2]), (-1, "set", 0, N[1]), (-1, "set", 5, N[2])],
            fuel=2, procedures="proc f() int { call g() to x; return 2; } "
            "proc g() int { return 1; }")

    def test_too_large(self):
        for statements, size in (
                ("repeat 100 { x := 1; x := 2; x := 3; x := 4; }", 400),
                ("x := 0; repeat 100 { x := 1; x := 2; x := 3; x := 4; }", 401),
                ("repeat 20 { repeat 20 { fail; } }", 400), ("repeat 21 { repeat 20 { fail; } }", 420),
                ("while b max 99 { x := 1; x := 2; x := 3; } fail; fail;", 400),
                ("while b max 99 { x := 1; x := 2; x := 3; } fail; fail; fail;", 401),
                ("fail;" * 400, 400), ("fail;" * 401, 401),
                ("repeat 100 { " * 10 + "fail;" + "}" * 10, 100 ** 10)):
            program = program_of(statements)
            self.same(code_size(program), size)
            if size <= 400:
                self.same(len(unroll(program)[1]), size)
            else:
                soon(self.refuses, TooLarge, unroll, program)

    def test_too_large_by_calls(self):
        f = "proc f() int { int k; call f() to k; call f() to k; return k; }"
        self.same(len(unroll(program_of("call f() to x;", "", 7, f))[1]), 382)
        self.refuses(TooLarge, unroll, program_of("call f() to x;", "", 8, f))

    def test_blocks_of_size_zero(self):
        for inner in ((), (("skip",),), (("repeat", 0, (("fail",),)),),
                      (("for", "x", 3, 2, (("fail",),)),)):
            block = inner
            for _ in range(24):
                block = (("repeat", 100, block), ("skip",))
            program = ((("int", "x", 0),), (), 0, block + (("fail",),) + block, ())
            self.same(soon(unroll, program), (("int",), ((-1, "fail"),), ()))
        idle = "repeat 100 { " * 20 + "skip;" + "}" * 20
        self.gives(f"while b max 1 {{ {idle} }}", ["bool"] * 4, [
            (-1, "split", 6, 7, B), (6, "split", 8, 9, B), (8, "halt")])
        self.gives("call f() to x;", [], [(-1, "set", 0, N[1])], fuel=1,
                   procedures=f"proc f() int {{ {idle} return 1; }}")

    def test_deep_blocks_in_calls_that_are_nested(self):
        deep = "if n != 0 { " * 20 + "call f(n - 1) to k;" + "}" * 20
        program = program_of("call f(7) to x;", "x", 8, (
            f"proc f(int n) int {{ int k; {deep} return k + 1; }}"))
        flat = few_calls(unroll, program)
        self.same(len(flat[1]), 8 * 23 + 1)
        self.same(few_calls(run_flat, flat, []), ("finished", (8,), 0, (1, 1), 0))


class SameRunsTest(Case):

    def compare(self, program, choices):
        expected = run(program, choices)
        self.same(run_flat(unroll(program), choices), expected, (program, choices))
        return expected[0]

    def test_the_example_of_printing(self):
        for choices in ([], [0], [1, 1], [1, 2, 0], [1, 2, 0, 0], [1, 2, 1], [1, 0, 3], [1, 9],
                        [1, 2, 0, 0, 0]):
            self.compare(EXAMPLE_PROGRAM, choices)
        self.same(weigh_flat(unroll(EXAMPLE_PROGRAM)), weigh_paths(EXAMPLE_PROGRAM))

    def test_ends_of_loops(self):
        program = program_of("b := true; while b max 2 { b ~ flip(1, 3); x := x + 1; }", "x")
        for choices in ([], [0], [1], [0, 0], [0, 1], [2], [0, 2], [0, 0, 0]):
            self.compare(program, choices)
        for count in range(5):
            self.compare(program_of(f"while x < 2 max {count} {{ x := x + 1; }}", "x"), [])

    def test_recursion(self):
        program = program_of("call f(0) to x;", "x, y", 3, (
            "proc f(int n) int { int k; bool h; h ~ flip(n, 3); y := y + 1; k := n; "
            "if h or n = 0 { call f(n + 1) to k; } assert k != 0; return k + n; }"))
        for path in paths(program):
            self.compare(program, list(path))
            self.compare(program, list(path[:-1]))
            self.compare(program, [*path[:-1], 2])
        self.same(list(flat_paths(unroll(program))), list(paths(program)))

    def test_random(self):
        outcomes = {}
        large = 0
        numbers = Numbers(33)
        for program, choices in sound_programs(32, 2500):
            if code_size(program) > 400:
                large += 1
                self.refuses(TooLarge, unroll, program)
                continue
            flat = unroll(program)
            self.same(len(flat[1]), code_size(program))
            for _ in range(2):
                expected = run_program(program, choices)
                self.same(run_flat(flat, choices), expected, (program, choices))
                self.same(run(program, choices), expected)
                outcomes[expected[0]] = outcomes.get(expected[0], 0) + 1
                choices = some_choices(numbers)
        self.assertEqual(len(outcomes), 6)
        self.assertTrue(min(outcomes.values()) > 50, outcomes)

    def test_random_answers(self):
        numbers = Numbers(34)
        compared = 0
        while compared < 500:
            program = sound_program(numbers)
            found = all_paths(run_program, program, 60)
            if code_size(program) > 400 or found is None:
                continue
            compared += 1
            flat = unroll(program)
            self.same(list(flat_paths(flat)), [choices for choices, _ in found])
            self.same(weigh_flat(flat), weigh_paths(program), program)


if __name__ == "__main__":
    unittest.main()
