"""Points 3.1 and 3.5: scopes, and which procedures are called."""

import unittest

from odds.errors import UnknownName
from odds.parser import parse_program
from odds.scopes import (
    calls_in, main_scope, procedure_named, procedure_scope, reachable_procedures,
)
from tests.support import EXAMPLE_PROGRAM, Case


def program_of(procedures, body=""):
    return parse_program(procedures + " main 3 { " + body + " } return;")


def procedures_calling(calls):
    """Procedures by name, each of which calls those that stand in its text."""
    return " ".join([f"proc {name}() int {{ {body_calling(called)} return 1; }}"
                     for name, called in calls])


def body_calling(names):
    return " ".join([f"call {name}() to x;" for name in names])


class ScopesTest(Case):

    def test_main_scope(self):
        self.same(self.pure(main_scope, EXAMPLE_PROGRAM),
                  {"x": "int", "b": "bool", "t": "array", "f": "proc", "g": "proc"})
        self.same(self.pure(main_scope, program_of("")), {})

    def test_procedure_scope(self):
        first, second = EXAMPLE_PROGRAM[1]
        outer = {"x": "int", "b": "bool", "t": "array", "f": "proc", "g": "proc"}
        self.same(self.pure(procedure_scope, EXAMPLE_PROGRAM, first),
                  {**outer, "a": "int", "c": "bool", "y": "int"})
        self.same(self.pure(procedure_scope, EXAMPLE_PROGRAM, second), outer)

    def test_the_last_declaration_counts(self):
        program = program_of("int a; bool a; bool c; array c[1]; array d[2]; int d;")
        self.same(main_scope(program), {"a": "bool", "c": "array", "d": "int"})

    def test_procedures_come_behind_declarations(self):
        program = program_of("int f; array g[1]; proc f() int { return 1; } proc g() int { return 1; }")
        self.same(main_scope(program), {"f": "proc", "g": "proc"})

    def test_parameters_come_behind_procedures(self):
        program = program_of("int a; proc b(bool a, int b) int { return 1; }")
        self.same(main_scope(program), {"a": "int", "b": "proc"})
        self.same(procedure_scope(program, program[1][0]), {"a": "bool", "b": "int"})

    def test_locals_come_behind_parameters(self):
        program = program_of("array a[1]; proc f(bool a, int a, int c) int { bool a; bool c; int c; "
                             "bool f; return 1; }")
        self.same(procedure_scope(program, program[1][0]), {"a": "bool", "c": "int", "f": "bool"})

    def test_two_parameters(self):
        program = program_of("proc f(bool a, int a) int { return 1; } proc g(int a, bool a) int "
                             "{ return 1; }")
        self.same(procedure_scope(program, program[1][0]), {"a": "int", "f": "proc", "g": "proc"})
        self.same(procedure_scope(program, program[1][1]), {"a": "bool", "f": "proc", "g": "proc"})

    def test_procedures_of_one_name(self):
        program = program_of("proc f(int a) int { return 1; } proc f(bool b) int { return 1; }")
        self.same(procedure_scope(program, program[1][0]), {"f": "proc", "a": "int"})
        self.same(procedure_scope(program, program[1][1]), {"f": "proc", "b": "bool"})


class ProcedureNamedTest(Case):

    def test_named(self):
        for procedure in EXAMPLE_PROGRAM[1]:
            self.same(self.pure(procedure_named, EXAMPLE_PROGRAM, procedure[0]), procedure)

    def test_first_of_several(self):
        program = program_of("proc f() int { return 1; } proc g() int { return 2; } "
                             "proc f() bool { return true; } proc g() int { return 3; }")
        self.same(procedure_named(program, "f"), program[1][0])
        self.same(procedure_named(program, "g"), program[1][1])

    def test_unknown(self):
        for name in ("h", "x", "b", "t", "a", "y", "main"):
            self.refuses(UnknownName, procedure_named, EXAMPLE_PROGRAM, name)
        self.refuses(UnknownName, procedure_named, program_of(""), "f")


class CallsTest(Case):

    def test_calls_in(self):
        self.same(self.pure(calls_in, EXAMPLE_PROGRAM[3]), ["f", "g"])
        self.same(self.pure(calls_in, ()), [])
        self.same(calls_in((("skip",), ("set", "f", ("var", "g")))), [])

    def test_different_and_ascending(self):
        block = program_of("", body_calling(["b", "a1", "a", "b", "ab", "a_", "a"]))[3]
        self.same(self.pure(calls_in, block), ["a", "a1", "a_", "ab", "b"])

    def test_blocks_inside(self):
        for text in ("if x { @ }", "if x { } else { @ }", "repeat 0 { @ }", "while x max 0 { @ }",
                     "for x from 1 to 0 { @ }", "repeat 1 { if x { } else { while x max 1 { @ } } }"):
            block = program_of("", text.replace("@", body_calling(["h"])))[3]
            self.same(calls_in(block), ["h"])
            block = program_of("", text.replace("@", body_calling("h")) + body_calling("ga"))[3]
            self.same(calls_in(block), ["a", "g", "h"])

    def test_bodies_of_procedures_do_not_count(self):
        program = program_of(procedures_calling([("f", "g"), ("g", "h"), ("h", "")]), body_calling("f"))
        self.same(calls_in(program[3]), ["f"])


class ReachableTest(Case):

    def reaches(self, calls, body, names):
        program = program_of("int x; " + procedures_calling(calls), body_calling(body))
        self.same(self.pure(reachable_procedures, program), list(names))

    def test_none(self):
        self.reaches([], "", "")
        self.reaches([("f", "g"), ("g", "f")], "", "")

    def test_directly(self):
        self.reaches([("f", ""), ("g", ""), ("h", "")], "hf", "fh")
        self.same(self.pure(reachable_procedures, EXAMPLE_PROGRAM), ["f", "g"])

    def test_through_others(self):
        self.reaches([("f", "g"), ("g", "h"), ("h", ""), ("i", "f")], "f", "fgh")
        self.reaches([("f", "g"), ("g", "h"), ("h", ""), ("i", "f")], "g", "gh")
        self.reaches([("f", "g"), ("g", "h"), ("h", ""), ("i", "f")], "h", "h")
        self.reaches([("f", "g"), ("g", "h"), ("h", ""), ("i", "f")], "i", "fghi")

    def test_themselves_and_each_other(self):
        self.reaches([("f", "f")], "f", "f")
        self.reaches([("f", "g"), ("g", "f")], "f", "fg")
        self.reaches([("f", "g"), ("g", "f")], "g", "fg")
        self.reaches([("f", "ffg"), ("g", "gh"), ("h", "f"), ("i", "ih")], "f", "fgh")
        self.reaches([("d", "bc"), ("b", "a"), ("c", "a"), ("a", "d")], "c", "abcd")

    def test_inside_of_blocks(self):
        program = parse_program(
            "int x; proc f() int { if true { } else { repeat 0 { call g() to x; } } return 1; }"
            "proc g() int { return 1; } proc h() int { return 1; }"
            "main 0 { while false max 0 { for x from 1 to 0 { call f() to x; } } } return;")
        self.same(reachable_procedures(program), ["f", "g"])

    def test_long_chain(self):
        many = 600
        calls = [(f"p{at}", [f"p{at + 1}"] if at + 1 < many else []) for at in range(many)]
        program = program_of("int x; " + procedures_calling(calls), body_calling(["p0"]))
        self.same(reachable_procedures(program), sorted([name for name, _ in calls]))


if __name__ == "__main__":
    unittest.main()
