"""Points 5.6 and 5.7: how many instructions a program unrolls to."""

import unittest

from odds.checks import check_program
from odds.parser import parse_program
from odds.sizes import code_size
from tests.samples import sound_programs
from tests.support import EXAMPLE_PROGRAM, Case, few_calls, soon

NAMES = "int x; int y; bool b; array t[3]; "


def program_of(statements, fuel=0, procedures=""):
    program = parse_program(f"{NAMES}{procedures} main {fuel} {{ {statements} }} return x;")
    check_program(program)
    return program


def size_of(block, program, calls):
    """The size of a block, by the words of point 5.6."""
    total = 0
    for statement in block:
        tag = statement[0]
        if tag == "if":
            total += 1 + size_of(statement[2], program, calls) + size_of(statement[3], program, calls)
        elif tag == "repeat":
            total += statement[1] * size_of(statement[2], program, calls)
        elif tag == "while":
            total += statement[2] * (1 + size_of(statement[3], program, calls)) + 2
        elif tag == "for":
            rounds = len(range(statement[2], statement[3] + 1))
            total += rounds * (1 + size_of(statement[4], program, calls))
        elif tag == "call":
            total += 1
            if calls > 0:
                called = [each for each in program[1] if each[0] == statement[1]][0]
                total += len(called[2]) + len(called[3]) + size_of(called[4], program, calls - 1)
        elif tag != "skip":
            total += 1
    return total


class SizesTest(Case):

    def sizes(self, statements, size, **more):
        self.same(self.pure(code_size, program_of(statements, **more)), size)

    def test_simple_statements(self):
        self.sizes("", 0)
        self.sizes("skip;", 0)
        for statement in ("x := 1;", "t[0] := 1;", "b ~ flip(1, 2);", "x ~ uniform(1, 9);",
                          "x ~ pick(1 : 1, 2 : 2, 3 : 3);", "observe b;", "weigh(1, 2);",
                          "assert b;", "fail;"):
            self.sizes(statement, 1)
            self.sizes(f"skip; {statement} skip; {statement}", 2)
        self.sizes("fail; fail; x := 1;", 3)

    def test_if(self):
        self.sizes("if b { }", 1)
        self.sizes("if b { x := 1; }", 2)
        self.sizes("if b { } else { x := 1; fail; }", 3)
        self.sizes("if b { x := 1; if b { fail; fail; } } else { fail; fail; fail; fail; }", 9)

    def test_repeat(self):
        self.sizes("repeat 7 { }", 0)
        self.sizes("repeat 0 { fail; }", 0)
        self.sizes("repeat 1 { fail; }", 1)
        self.sizes("repeat 7 { fail; x := 1; skip; }", 14)
        self.sizes("repeat 7 { repeat 3 { fail; } fail; }", 28)
        self.sizes("repeat 100 { fail; }", 100)

    def test_while(self):
        self.sizes("while b max 0 { }", 2)
        self.sizes("while b max 0 { fail; }", 2)
        self.sizes("while b max 1 { }", 3)
        self.sizes("while b max 5 { fail; fail; }", 17)
        self.sizes("while b max 3 { while b max 2 { fail; } }", 23)

    def test_for(self):
        self.sizes("for x from 0 to 0 { }", 1)
        self.sizes("for x from 3 to 5 { }", 3)
        self.sizes("for x from 3 to 5 { fail; fail; }", 9)
        self.sizes("for x from 0 to 100 { }", 101)
        self.sizes("for x from 3 to 2 { fail; }", 0)
        self.sizes("for x from 100 to 0 { fail; }", 0)

    def test_call(self):
        f = "proc f(int a, bool c) int { int k; x := 1; return a; }"
        self.sizes("call f(1, b) to x;", 1, procedures=f, fuel=0)
        self.sizes("call f(1, b) to x;", 5, procedures=f, fuel=1)
        self.sizes("call f(1, b) to x;", 5, procedures=f, fuel=8)
        self.sizes("repeat 3 { call f(1, b) to x; }", 15, procedures=f, fuel=1)
        self.sizes("call g() to x;", 1, procedures="proc g() int { return 1; }", fuel=1)
        self.sizes("call g() to x;", 1, procedures="proc g() int { fail; return 1; }", fuel=0)

    def test_calls_of_calls(self):
        f = "proc f(int n) int { int k; x := 1; call f(n) to k; call f(n) to k; return k; }"
        size = 1
        for fuel in range(9):
            self.sizes("call f(1) to x; call f(2) to x;", 2 * size, procedures=f, fuel=fuel)
            size = 2 + 1 + 2 * size + 1
        two = ("proc f() int { int k; call g(1) to k; return k; } "
               "proc g(int a) int { fail; fail; call f() to a; return a; }")
        self.sizes("call f() to x;", 1, procedures=two, fuel=0)
        self.sizes("call f() to x;", 3, procedures=two, fuel=1)
        self.sizes("call f() to x;", 7, procedures=two, fuel=2)
        self.sizes("call f() to x;", 9, procedures=two, fuel=3)
        self.sizes("call g(1) to x;", 5, procedures=two, fuel=1)

    def test_what_nothing_calls_does_not_count(self):
        self.sizes("x := 1;", 1, fuel=8, procedures="proc f() int { fail; return 1; }")

    def test_hundreds_of_digits(self):
        repeats = "repeat 100 { " * 20
        calls = "call f() to k; call g() to k; " * 150
        program = program_of("call f() to x;", fuel=8, procedures=(
            f"proc f() int {{ int k; {repeats} {calls} {'}' * 20} return 1; }}"
            f"proc g() int {{ int k; {repeats} {calls} fail; {'}' * 20} return 1; }}"))
        f, g = 1, 1
        for _ in range(8):
            f, g = 2 + 100 ** 20 * 150 * (f + g), 2 + 100 ** 20 * (150 * (f + g) + 1)
        self.same(soon(few_calls, code_size, program), f)
        self.assertTrue(f > 10 ** 330)

    def test_many_procedures(self):
        names = [f"p{number}" for number in range(60)]
        calls = " ".join([f"call {name}() to k;" for name in names])
        program = program_of("call p7() to x;", fuel=8, procedures=" ".join(
            [f"proc {name}() int {{ int k; {calls} return k; }}" for name in names]))
        size = 1
        for _ in range(8):
            size = 2 + 60 * size
        self.same(soon(code_size, program), size)

    def test_deep_blocks(self):
        for wrap, least, step in (
                (lambda block: ("repeat", 100, block), 0, lambda size: 100 * size),
                (lambda block: ("if", ("true",), block, ()), 1, lambda size: 1 + size),
                (lambda block: ("for", "x", 1, 100, block), 1, lambda size: 100 * (1 + size)),
                (lambda block: ("while", ("true",), 100, block), 1,
                 lambda size: 100 * (1 + size) + 2)):
            block, size = (("fail",),), 1
            for _ in range(24):
                block, size = (wrap(block),), step(size)
            program = ((("int", "x", 0),), (), 0, block, ())
            self.same(few_calls(code_size, program), size)
            self.assertTrue(least < size)

    def test_random(self):
        for program, _ in sound_programs(31, 1500):
            self.same(code_size(program), size_of(program[3], program, program[2]), program)

    def test_the_example_of_printing(self):
        self.same(self.pure(code_size, EXAMPLE_PROGRAM), 40)


if __name__ == "__main__":
    unittest.main()
