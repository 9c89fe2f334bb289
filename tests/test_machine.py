"""Points 4.5 and 4.6: runs of programs."""

import unittest

from odds.checks import check_program
from odds.machine import run
from odds.parser import parse_program
from tests.reference import run_program
from tests.samples import sound_programs
from tests.support import EXAMPLE_PROGRAM, Case, few_calls, soon

ONE = (1, 1)
NAMES = "int x; int y; bool b; bool c; array t[3]; "


def body_of(statements, results="", procedures="", fuel=0):
    """A sound program with some variables."""
    program = parse_program(f"{NAMES}{procedures} main {fuel} {{ {statements} }} return {results};")
    check_program(program)
    return program


def nested(heads, inner):
    """Blocks inside each other, each with the head that a function gives for its level."""
    return "".join([head + " { " for head in heads]) + inner + " }" * len(heads)


class RunCase(Case):

    def runs(self, program, choices, outcome, values=(), used=0, mass=ONE, width=0):
        self.same(self.pure(run, program, choices), (outcome, values, used, mass, width))

    def finishes(self, statements, results, values, choices=(), mass=ONE, **more):
        """The run finishes with these values and takes all choices."""
        self.runs(body_of(statements, results, **more), list(choices), "finished", values,
                  len(choices), mass)

    def faults(self, statements, results="", choices=(), mass=ONE, **more):
        self.runs(body_of(statements, results, **more), list(choices), "faulted", (), len(choices),
                  mass)

    def exhausts(self, statements, choices=(), mass=ONE, **more):
        self.runs(body_of(statements, **more), list(choices), "exhausted", (), len(choices), mass)


class OutcomesTest(RunCase):

    def test_examples(self):
        program = parse_program(
            "int x; main 0 { x ~ uniform(1, 3); observe x < 3; } return x;")
        self.runs(program, [1], "finished", (2,), 1, (1, 3), 0)
        self.runs(program, [], "starved", (), 0, (1, 1), 3)
        self.runs(program, [2], "rejected", (), 1, (1, 3), 0)
        self.runs(program, [3], "stray", (), 0, (1, 1), 3)

    def test_without_draws(self):
        self.finishes("", "", ())
        self.finishes("skip;", "x, b, y, c, t[0], t[2]", (0, False, 0, False, 0, 0))
        self.finishes("x := 4; b := not b;", "x * 2, b, x = 4, c or b", (8, True, True, True))

    def test_starved(self):
        program = body_of("b ~ flip(1, 4); x ~ uniform(2, 6); x ~ pick(1 : 3, 2 : 0, x : 3); "
                          "weigh(1, 2);", "x")
        self.runs(program, [], "starved", (), 0, ONE, 2)
        self.runs(program, [1], "starved", (), 1, (3, 4), 5)
        self.runs(program, [1, 4], "starved", (), 2, (3, 20), 3)
        self.runs(program, [1, 4, 2], "starved", (), 3, (3, 40), 2)
        self.runs(program, [1, 4, 2, 0], "finished", (6,), 4, (3, 80), 0)

    def test_stray(self):
        program = body_of("b ~ flip(1, 4); x ~ uniform(2, 6); x ~ pick(1 : 3, 2 : 0, x : 3); "
                          "weigh(1, 2);", "x")
        self.runs(program, [2], "stray", (), 0, ONE, 2)
        self.runs(program, [9, 0, 0, 0], "stray", (), 0, ONE, 2)
        self.runs(program, [0, 5], "stray", (), 1, (1, 4), 5)
        self.runs(program, [0, 0, 3, 0, 0], "stray", (), 2, (1, 20), 3)
        self.runs(program, [0, 0, 0, 2], "stray", (), 3, (1, 40), 2)

    def test_choices_left_over(self):
        program = body_of("x ~ uniform(0, 1); if x = 1 { fail; }", "x")
        self.runs(program, [0, 7, 9], "finished", (0,), 1, (1, 2))
        self.runs(program, [1, 0], "faulted", (), 1, (1, 2))
        self.runs(body_of("observe false; b ~ flip(1, 2);"), [0, 1], "rejected")

    def test_a_draw_that_is_not_possible_is_not_starved(self):
        for draw in ("b ~ flip(2, 1);", "b ~ flip(0, 0);", "x ~ uniform(1, 0);",
                     "x ~ uniform(0, 64);", "x ~ pick(1 : 0);", "x ~ pick(1 : 1, 2 : -1);",
                     "weigh(-1, 2);", "b ~ flip(1 div 0, 1);", "x ~ uniform(0, t[3]);",
                     "x ~ pick(1 : 1, 1 : t[3]);", "weigh(1, 1 div 0);"):
            self.faults(draw)
            self.runs(body_of(draw), [0, 0], "faulted")
            self.runs(body_of("c ~ flip(1, 2); " + draw), [1], "faulted", (), 1, (1, 2))

    def test_a_chance_of_zero(self):
        self.finishes("b ~ flip(0, 3);", "b", (True,), [0], (0, 1))
        self.finishes("b ~ flip(3, 3);", "b", (False,), [1], (0, 1))
        self.finishes("x ~ pick(5 : 0, 6 : 2);", "x", (5,), [0], (0, 1))
        self.finishes("b ~ flip(0, 3); c ~ flip(1, 2);", "b, c", (True, True), [0, 0], (0, 1))
        self.runs(body_of("weigh(2, 2);"), [1], "rejected", (), 1, (0, 1))
        self.runs(body_of("b ~ flip(0, 1); c ~ flip(1, 2);"), [0], "starved", (), 1, (0, 1), 2)

    def test_results_that_fault(self):
        self.faults("x := 1;", "x, 1 div y")
        self.faults("b ~ flip(1, 3);", "1 div y, x", [0], (1, 3))
        self.faults("x := 999999999;", "x + 1")
        self.finishes("", "b and 1 div y = 1", (False,))

    def test_results_are_of_their_kind(self):
        self.finishes("x := 1; b := true;", "x, b, x = 1, min(x, 0), (if b then x else y), t[1], "
                      "not b", (1, True, True, 0, 1, 0, False))


class StatementsTest(RunCase):

    def test_set_and_store(self):
        self.finishes("x := 3; y := x - 5; x := x * y; b := x < y;", "x, y, b", (-6, -2, True))
        self.finishes("t[0] := 4; t[2] := 6; t[1] := t[0] + t[2]; t[t[0] - 4] := 9;",
                      "t[0], t[1], t[2]", (9, 10, 6))
        for statement in ("t[3] := 1;", "t[-1] := 1;", "t[1 div y] := 1;", "t[0] := 1 div y;",
                          "x := 1 div y;", "b := 1 div y = 1;", "x := t[3];", "x := t[-1];"):
            self.faults(statement)

    def test_a_store_that_faults_ends_the_run(self):
        self.faults("t[3] := 1; observe false;")
        self.runs(body_of("observe false; t[3] := 1;"), [], "rejected")

    def test_flip(self):
        self.finishes("b ~ flip(1, 3);", "b", (True,), [0], (1, 3))
        self.finishes("b ~ flip(1, 3);", "b", (False,), [1], (2, 3))
        self.finishes("b := true; b ~ flip(x, x + 5);", "b", (False,), [1])
        self.finishes("b ~ flip(2, 2);", "b", (True,), [0])

    def test_uniform(self):
        for choice in range(4):
            self.finishes("x ~ uniform(-1, 2);", "x", (choice - 1,), [choice], (1, 4))
        self.finishes("x ~ uniform(4, 4);", "x", (4,), [0])
        self.finishes("x ~ uniform(1, 64);", "x", (64,), [63], (1, 64))
        self.finishes("x := 3; x ~ uniform(x, x + 2);", "x", (5,), [2], (1, 3))

    def test_pick(self):
        for choice, value, mass in ((0, 7, (1, 6)), (1, 8, (1, 2)), (2, 7, (1, 3)), (3, 9, (0, 1))):
            self.finishes("x ~ pick(7 : 1, 8 : 3, 7 : 2, 9 : 0);", "x", (value,), [choice], mass)
        self.finishes("b ~ pick(true : 1, false : 1);", "b", (False,), [1], (1, 2))
        self.finishes("x := 2; x ~ pick(x + 1 : x, x * x : 1);", "x", (4,), [1], (1, 3))
        self.finishes("x ~ pick(5 : 999999999, 6 : 999999999);", "x", (6,), [1], (1, 2))

    def test_pick_evaluates_one_value_only(self):
        draw = "x ~ pick(1 div y : 1, 5 : 1, t[3] : 0);"
        self.finishes(draw, "x", (5,), [1], (1, 2))
        self.faults(draw, "x", [0], (1, 2))
        self.faults(draw, "x", [2], (0, 1))
        self.runs(body_of(draw), [], "starved", (), 0, ONE, 3)
        self.runs(body_of(draw), [3], "stray", (), 0, ONE, 3)

    def test_observe_and_assert_and_fail(self):
        self.finishes("observe true; assert x = 0;", "x", (0,))
        self.runs(body_of("observe x = 1; fail;"), [], "rejected")
        self.faults("assert x = 1; observe false;")
        self.faults("fail; observe false;")
        self.faults("observe 1 div y = 1;")
        self.faults("assert 1 div y = 1;")
        self.runs(body_of("b ~ flip(1, 5); observe b;"), [1], "rejected", (), 1, (4, 5))
        self.runs(body_of("b ~ flip(1, 5); assert b;"), [1], "faulted", (), 1, (4, 5))

    def test_weigh(self):
        self.finishes("weigh(1, 3);", "x", (0,), [0], (1, 3))
        self.runs(body_of("weigh(1, 3); fail;"), [1], "rejected", (), 1, (2, 3))
        self.runs(body_of("weigh(1, 3); fail;"), [1, 0], "rejected", (), 1, (2, 3))
        self.finishes("x := 2; weigh(x, x + 1);", "x", (2,), [0], (2, 3))
        for statement in ("weigh(2, 1);", "weigh(0, 0);", "weigh(1 div y, 1);"):
            self.faults(statement)

    def test_if(self):
        for condition, value in (("true", 1), ("false", 2), ("x = 0", 1), ("x != 0", 2)):
            self.finishes(f"if {condition} {{ y := 1; }} else {{ y := 2; }}", "y", (value,))
        self.finishes("if false { fail; } y := 3;", "y", (3,))
        self.finishes("if true { } else { fail; } y := 3;", "y", (3,))
        self.finishes("if x = 0 { x := 1; } else { x := 2; } if x = 0 { fail; }", "x", (1,))
        self.faults("if 1 div y = 1 { }")

    def test_repeat(self):
        self.finishes("repeat 0 { fail; }", "x", (0,))
        self.finishes("repeat 1 { x := x + 1; }", "x", (1,))
        self.finishes("repeat 100 { x := x + 1; repeat 3 { y := y + 1; } }", "x, y", (100, 300))
        self.finishes("repeat 2 { b ~ flip(1, 3); x := x * 2; if b { x := x + 1; } }", "x", (2,),
                      [0, 1], (2, 9))
        self.faults("repeat 5 { x := x + 1; assert x < 3; }")

    def test_while(self):
        self.finishes("while x < 3 max 5 { x := x + 1; }", "x", (3,))
        # The condition is False at the same time as the count is used up: no exhaustion.
        self.finishes("while x < 3 max 3 { x := x + 1; }", "x", (3,))
        self.exhausts("while x < 3 max 2 { x := x + 1; }")
        self.exhausts("while x < 3 max 0 { fail; }")
        self.finishes("while x < 0 max 0 { fail; }", "x", (0,))
        self.exhausts("while true max 100 { x := x + 1; }")
        self.exhausts("while true max 1 { }")
        self.faults("while 1 div y = 1 max 3 { }")
        self.faults("x := 2; while 4 div x != 0 max 9 { x := x - 1; }")
        # The last time the condition is evaluated, it may fault in place of exhaustion.
        self.faults("x := 2; while 4 div x != 0 max 2 { x := x - 1; }")
        self.exhausts("x := 2; while 4 div x != 0 max 1 { x := x - 1; }")

    def test_while_with_draws(self):
        program = body_of("b := true; while b max 2 { b ~ flip(1, 3); x := x + 1; }", "x, b")
        self.runs(program, [1], "finished", (1, False), 1, (2, 3))
        self.runs(program, [0, 1], "finished", (2, False), 2, (2, 9))
        self.runs(program, [0, 0], "exhausted", (), 2, (1, 9))
        self.runs(program, [0, 0, 0], "exhausted", (), 2, (1, 9))

    def test_for(self):
        self.finishes("for x from 2 to 5 { y := y * 10 + x; }", "x, y", (5, 2345))
        self.finishes("for x from 3 to 3 { y := y + 1; }", "x, y", (3, 1))
        self.finishes("x := 7; for x from 3 to 2 { fail; }", "x", (7,))
        self.finishes("x := 7; for x from 100 to 0 { fail; }", "x", (7,))
        self.finishes("for x from 0 to 100 { y := y + x; }", "x, y", (100, 5050))
        self.finishes("for x from 0 to 2 { }", "x", (2,))

    def test_for_whose_block_changes_the_variable(self):
        self.finishes("for x from 1 to 3 { y := y * 10 + x; x := x * 7; }", "x, y", (21, 123))
        self.finishes("for x from 0 to 2 { x := 9; y := y + 1; }", "x, y", (9, 3))
        self.finishes("for x from 1 to 2 { for x from 5 to 6 { y := y * 10 + x; } }", "x, y",
                      (6, 5656))

    def test_nothing_behind_the_end_is_executed(self):
        for statement, outcome in (("observe false;", "rejected"), ("fail;", "faulted"),
                                   ("while true max 0 { }", "exhausted")):
            for block in (f"repeat 3 {{ {statement} b ~ flip(1, 2); }}",
                          f"if true {{ {statement} }} b ~ flip(1, 2);",
                          f"for x from 1 to 3 {{ if true {{ {statement} b ~ flip(1, 2); }} }}"):
                self.runs(body_of(block), [0, 0, 0], outcome)


class CallsTest(RunCase):

    def test_arguments_and_values(self):
        self.finishes(
            "x := 5; call f(x, x < 3) to y; call g() to b;", "x, y, b", (6, -6, True), fuel=1,
            procedures="proc f(int a, bool e) int { int k; k := a + 1; x := k; "
                       "return (if e then k else -k); } proc g() bool { return y < 0; }")

    def test_arguments_are_evaluated_before_the_frame_begins(self):
        self.finishes("call f(3, 4) to x;", "x", (4334,), fuel=2, procedures=(
            "proc f(int a, int e) int { int k; if a = 3 { call f(e, a) to k; } "
            "return (if k = 0 then a * 10 + e else k * 100 + a * 10 + e); }"))

    def test_locals_are_set_anew(self):
        self.finishes("call f() to x; call f() to y;", "x, y", (5, 5), fuel=1, procedures=(
            "proc f() int { int k; bool h; assert k = 0; assert not h; k := 5; h := true; "
            "return k; }"))
        self.finishes("repeat 3 { call f(2) to x; y := y + x; }", "y", (9,), fuel=1, procedures=(
            "proc f(int a) int { int k; k := k + a; a := k + 1; return a; }"))

    def test_the_frame_is_given_up(self):
        # Names of a frame do not hide the same names of another procedure.
        self.finishes("call f() to x;", "x", (12,), fuel=2, procedures=(
            "proc f() int { int k; int m; k := 10; call g(2) to m; return k + m; } "
            "proc g(int k) int { bool m; m := true; k := k + 0; return k; }"))

    def test_a_procedure_that_calls_itself(self):
        factorial = ("proc f(int n) int { int k; if n = 0 { k := 1; } else { call f(n - 1) to k; "
                     "k := k * n; } return k; }")
        self.finishes("call f(7) to x;", "x", (5040,), procedures=factorial, fuel=8)
        self.exhausts("call f(8) to x;", procedures=factorial, fuel=8)
        self.finishes("call f(2) to x;", "x", (2,), procedures=factorial, fuel=3)
        self.exhausts("call f(3) to x;", procedures=factorial, fuel=3)

    def test_frames_of_their_own(self):
        self.finishes("call f(3) to x;", "x", (3210,), fuel=4, procedures=(
            "proc f(int n) int { int k; int m; m := n; if n != 0 { call f(n - 1) to k; } "
            "assert m = n; return (if n = 0 then 0 else k + "
            "n * (if n = 1 then 10 else (if n = 2 then 100 else 1000))); }"))

    def test_procedures_that_call_each_other(self):
        procedures = ("proc even(int n) bool { bool e; e := true; if n != 0 { "
                      "call odd(n - 1) to e; } return e; } "
                      "proc odd(int n) bool { bool e; if n != 0 { call even(n - 1) to e; } "
                      "return e; }")
        self.finishes("call even(6) to b; call odd(6) to c;", "b, c", (True, False), fuel=7,
                      procedures=procedures)
        self.finishes("call even(5) to b; call odd(5) to c;", "b, c", (False, True), fuel=6,
                      procedures=procedures)
        self.exhausts("call odd(6) to b;", fuel=6, procedures=procedures)

    def test_the_target_belongs_to_the_place_of_the_call(self):
        procedures = ("proc f(int n) int { int k; int m; k := 100; "
                      "if n = 0 { m := 1; } else { call f(0) to k; } return k * 10 + m; }")
        self.finishes("call f(0) to x; call f(1) to y;", "x, y", (1001, 10010), fuel=2,
                      procedures=procedures)
        # A target that is a parameter of the caller and has the name of one of the callee.
        self.finishes("call f(1, 5) to x;", "x", (16,), fuel=2, procedures=(
            "proc f(int n, int k) int { if n = 1 { call f(0, 6) to k; k := k + 10; } "
            "return k; }"))
        # A local of the caller whose name the callee has, too, with the other kind.
        self.finishes("call f() to b;", "b", (True,), fuel=2, procedures=(
            "proc f() bool { bool k; call g() to k; return k; } "
            "proc g() bool { int k; k := 3; return k = 3; }"))

    def test_procedures_see_the_program(self):
        self.finishes("x := 4; t[1] := 7; call f() to y;", "x, y, t[1], t[2]", (5, 11, 8, 9),
                      fuel=2, procedures=(
                          "proc f() int { int r; r := x + t[1]; call g() to b; return r; } "
                          "proc g() bool { t[1] := t[1] + 1; t[2] := 9; x := x + 1; "
                          "return true; }"))
        self.finishes("call f() to x;", "x, y", (1, 2), fuel=1, procedures=(
            "proc f() int { x := 5; y := 2; return 1; }"))

    def test_no_call_is_allowed(self):
        # The arguments would fault, but they are not evaluated.
        procedures = "proc f(int a) int { return a; } "
        self.exhausts("call f(1 div y) to x;", procedures=procedures, fuel=0)
        self.faults("call f(1 div y) to x;", procedures=procedures, fuel=1)
        self.exhausts("call g() to x;", fuel=1, procedures=(
            procedures + "proc g() int { call f(1 div y) to x; return 1; }"))
        self.runs(body_of("b ~ flip(1, 3); call f(1) to x;", procedures=procedures), [0],
                  "exhausted", (), 1, (1, 3))

    def test_calls_that_have_ended_are_not_active(self):
        procedures = "proc f(int a) int { return a + 1; } "
        self.finishes("repeat 50 { call f(x) to x; }", "x", (50,), procedures=procedures, fuel=1)
        self.finishes("call g() to x;", "x", (2,), fuel=2, procedures=(
            procedures + "proc g() int { call f(x) to x; call f(x) to x; return x; }"))
        self.exhausts("call g() to x;", fuel=1, procedures=(
            procedures + "proc g() int { call f(x) to x; return x; }"))

    def test_faults_in_calls(self):
        self.faults("call f() to x;", fuel=1, procedures="proc f() int { return 1 div x; }")
        self.faults("call f(1, 1 div x) to x;", fuel=1, procedures=(
            "proc f(int a, int e) int { return 1; }"))
        self.faults("call f() to x; observe false;", fuel=1, procedures=(
            "proc f() int { fail; return 1; }"))
        self.runs(body_of("call f() to x; fail;", fuel=1, procedures=(
            "proc f() int { observe false; return 1; }")), [], "rejected")

    def test_draws_in_calls(self):
        program = body_of("repeat 2 { call f(1) to x; y := y * 10 + x; }", "y", fuel=3, procedures=(
            "proc f(int n) int { int k; bool h; h ~ flip(n, 3); k := n; "
            "if h { call f(n + 1) to k; } return k; }"))
        self.runs(program, [1, 1], "finished", (11,), 2, (4, 9))
        self.runs(program, [0, 1, 1], "finished", (21,), 3, (2, 27))
        self.runs(program, [0, 0, 1, 1], "finished", (31,), 4, (0, 1))
        self.runs(program, [0, 0, 0], "exhausted", (), 3, (2, 9))
        self.runs(program, [0], "starved", (), 1, (1, 3), 2)
        self.runs(program, [0, 2], "stray", (), 1, (1, 3), 2)


class LoopsTest(RunCase):

    def test_idle_repeats_are_not_stepped_through(self):
        # The body of the program is a block, too, so there are 23 levels below it.
        heads = ["repeat 100"] * 23
        for inner in ("", "skip;", "skip; skip;", "repeat 0 { x := 1; }",
                      "for x from 1 to 0 { fail; }", "for x from 7 to 6 { repeat 100 { fail; } }"):
            program = body_of("x := 2; " + nested(heads[:20], inner) + " x := x + 1;", "x")
            self.same(soon(run, program, []), ("finished", (3,), 0, ONE, 0))
        program = body_of(nested(heads, "skip;"), "x")
        self.same(soon(run, program, []), ("finished", (0,), 0, ONE, 0))
        inner = ("repeat", 100, (("skip",), ("repeat", 3, ())))
        for _ in range(23):
            inner = ("repeat", 100, (("skip",), inner, ("for", "x", 5, 4, (("fail",),))))
        program = ((("int", "x", 0),), (), 0, (inner,), (("var", "x"),))
        self.same(soon(run, program, []), ("finished", (0,), 0, ONE, 0))

    def test_idle_repeats_in_other_places(self):
        idle = nested(["repeat 100"] * 18, "skip; repeat 0 { fail; }")
        self.finishes(f"if x = 0 {{ {idle} }} else {{ fail; }}", "x", (0,))
        self.finishes(f"while x < 9 max 20 {{ {idle} x := x + 1; }}", "x", (9,))
        self.finishes(f"for x from 1 to 3 {{ {idle} }}", "x", (3,))
        self.finishes(f"repeat 7 {{ {idle} x := x + 1; {idle} }}", "x", (7,))
        self.finishes("call f() to x; call f() to y;", "x, y", (4, 4), fuel=1,
                      procedures=f"proc f() int {{ {idle} return 4; }}")

    def test_statements_that_are_not_idle(self):
        self.faults("repeat 3 { if 1 div y = 1 { } }")
        self.finishes("repeat 3 { for x from 1 to 2 { } }", "x", (2,))
        self.exhausts("repeat 3 { while true max 0 { } }")
        self.exhausts("repeat 3 { call f() to x; }", procedures="proc f() int { return 1; }")
        self.finishes("repeat 3 { repeat 2 { x := x + 1; } repeat 2 { } }", "x", (6,))

    def test_deep_blocks(self):
        is_new = ("eq", ("var", "x"), ("num", 0))
        for wrap, outcome, values in (
                (lambda block: ("repeat", 1, block), "finished", (7, 0)),
                (lambda block: ("if", ("true",), block, ()), "finished", (7, 0)),
                (lambda block: ("if", ("false",), (), block), "finished", (7, 0)),
                (lambda block: ("for", "y", 3, 3, block), "finished", (7, 3)),
                (lambda block: ("while", is_new, 1, block), "finished", (7, 0)),
                (lambda block: ("while", ("true",), 1, block), "exhausted", ())):
            for levels in (23, 24, 30):
                block = (("set", "x", ("num", 7)),)
                for _ in range(levels):
                    block = (wrap(block),)
                program = ((("int", "x", 0), ("int", "y", 0)), (), 0, block,
                           (("var", "x"), ("var", "y")))
                self.same(few_calls(run, program, []), (outcome, values, 0, ONE, 0))

    def test_deep_blocks_in_calls_that_are_nested(self):
        deep = nested(["if n != 0"] * 22, "call f(n - 1) to k;")
        tree = "k"
        for _ in range(21):
            tree = f"(if n != 0 then {tree} else n)"
        program = body_of("call f(7) to x;", "x", fuel=8, procedures=(
            f"proc f(int n) int {{ int k; {deep} return 1 + {tree}; }}"))
        self.same(few_calls(run, program, []), ("finished", (8,), 0, ONE, 0))

    def test_many_rounds(self):
        program = body_of(nested(["repeat 30", "for y from 1 to 30"], "x := x + y;"), "x")
        self.same(soon(run, program, []), ("finished", (13950,), 0, ONE, 0))


class RandomTest(RunCase):

    def test_the_example_of_printing(self):
        for choices in ([], [0], [1, 1, 1], [1, 2, 0, 0, 0], [1, 0, 0, 1], [5], [1, 2, 0, 0, 0, 1]):
            self.same(run(EXAMPLE_PROGRAM, choices), run_program(EXAMPLE_PROGRAM, choices))

    def test_random(self):
        outcomes = {}
        for program, choices in sound_programs(7, 2500):
            expected = run_program(program, choices)
            self.same(run(program, choices), expected, (program, choices))
            outcomes[expected[0]] = outcomes.get(expected[0], 0) + 1
        self.assertEqual(len(outcomes), 6)
        self.assertTrue(min(outcomes.values()) > 50, outcomes)

    def test_arguments_stay_as_they_were(self):
        for program, choices in sound_programs(8, 200):
            self.pure(run, program, choices)


if __name__ == "__main__":
    unittest.main()
