"""Points 3.3 and 3.4: the rules of sound programs."""

import unittest

from odds.checks import check_program, is_sound
from odds.errors import BadSize, KindMismatch, NameClash, UnknownName, WrongCount
from odds.parser import parse_program
from tests.support import EXAMPLE, EXAMPLE_PROGRAM, Case, few_calls

RULES = (NameClash, BadSize, UnknownName, WrongCount, KindMismatch)

HEAD = """int i; bool b; array t[3];
proc f(int p, bool q) int { return p; } proc g() bool { return b; } """

# Programs with a place for statements: in the body, in blocks, and in a procedure that nothing calls.
CONTEXTS = [HEAD + rest for rest in (
    "main 2 { @ } return;",
    "main 2 { skip; @ skip; } return;",
    "main 2 { if b { @ } } return;",
    "main 2 { if b { } else { @ } } return;",
    "main 2 { repeat 0 { @ } } return;",
    "main 2 { while b max 0 { @ } } return;",
    "main 2 { for i from 1 to 0 { @ } } return;",
    "main 2 { if b { repeat 2 { while b max 1 { for i from 0 to 1 { skip; @ } } } } } return;",
    "proc h() int { @ return 1; } main 2 { } return;",
    "proc h() int { if b { skip; } else { repeat 1 { @ } } return 1; } main 2 { } return;",
    "proc h() int { @ return 1; } proc k() int { return 1; } main 2 { } return;",
)]

# Expressions of each kind, and some with a wrong part.
INTEGERS = ("1", "i", "t[0]", "-i", "i + 1", "i - 1", "i * 2", "i div 2", "i mod 2", "min(i, 1)",
            "max(i, 1)", "(if b then 1 else i)")
BOOLEANS = ("true", "false", "b", "not b", "i = 1", "b = b", "i != 1", "b != true", "i < 1", "i <= 1",
            "b and b", "b or b", "(if b then b else true)")
WRONG = ("-b", "not i", "t[b]", "i + b", "b - i", "b * i", "i div b", "b mod 1", "min(b, 1)",
         "max(1, b)", "i = b", "b != 1", "b < b", "i <= b", "i and b", "b or 1",
         "(if i then 1 else 2)", "(if b then 1 else b)", "t[t[true]]", "-(-b)", "not (b and i)")
UNKNOWN = ("z", "t", "f", "z[0]", "i[0]", "b[0]", "f[0]", "t[z]", "1 + z", "not z", "min(1, t)",
           "(if z then 1 else 2)", "(if b then z else 2)", "(if b then 1 else z)", "-(-z)", "t[t]")

# Statements with a place for an expression of one kind; the rest of each is sound.
FOR_INTEGERS = (
    "i := @;", "t[@] := 1;", "t[1] := @;", "b ~ flip(@, 2);", "b ~ flip(1, @);",
    "i ~ uniform(@, 2);", "i ~ uniform(1, @);", "i ~ pick(@ : 1);", "i ~ pick(1 : @);",
    "i ~ pick(1 : 1, @ : 1);", "i ~ pick(1 : 1, 1 : @);", "b ~ pick(true : @);",
    "b ~ pick(true : 1, b : @);", "weigh(@, 2);", "weigh(1, @);", "call f(@, b) to i;",
    "observe (@) = i;",
)
FOR_BOOLEANS = (
    "b := @;", "b ~ pick(@ : 1);", "b ~ pick(b : 1, @ : 1);", "observe @;", "assert @;",
    "if @ { }", "if @ { skip; } else { skip; }", "while @ max 1 { }", "call f(1, @) to i;",
)

SOUND = (
    "skip;", "fail;", "i := 1;", "b := true;", "t[0] := 1;", "b ~ flip(1, 2);", "i ~ uniform(1, 2);",
    "i ~ pick(1 : 1);", "b ~ pick(true : 1);", "weigh(1, 2);", "observe b;", "assert b;", "if b { }",
    "repeat 100 { }", "repeat 0 { }", "while b max 100 { }", "while b max 0 { }",
    "for i from 0 to 100 { }", "for i from 100 to 0 { }", "for i from 100 to 100 { }",
    "call f(1, b) to i;", "call g() to b;",
)


class Checks(Case):
    """How a program is found sound or not."""

    def sound(self, text):
        program = parse_program(text)
        self.assertIsNone(self.pure(check_program, program), text)
        self.same(self.pure(is_sound, program), True, text)

    def breaks(self, error, text):
        program = parse_program(text)
        self.refuses(error, check_program, program)
        self.same(self.pure(is_sound, program), False, text)

    def everywhere(self, statement, error=None):
        """The statement is sound, or breaks a rule, wherever it may stand."""
        for context in CONTEXTS:
            if error is None:
                self.sound(context.replace("@", statement))
            else:
                self.breaks(error, context.replace("@", statement))


class StatementsTest(Checks):

    def test_sound(self):
        for statement in SOUND:
            self.everywhere(statement)
        self.everywhere(" ".join(SOUND))

    def test_examples(self):
        self.same(is_sound(parse_program("int x; main 0 { x := y; } return x;")), False)
        self.sound(EXAMPLE)
        self.sound("main 0 { } return;")
        self.same(is_sound(EXAMPLE_PROGRAM), True)

    def test_counts_and_bounds(self):
        for bad in (101, 102, 1000, 999999999):
            for statement in (f"repeat {bad} {{ }}", f"while b max {bad} {{ }}",
                              f"for i from {bad} to 0 {{ }}", f"for i from 0 to {bad} {{ }}",
                              f"for i from {bad} to {bad} {{ }}"):
                self.everywhere(statement, BadSize)

    def test_unknown_names_in_expressions(self):
        for place in (*FOR_INTEGERS, *FOR_BOOLEANS):
            for tree in UNKNOWN:
                for context in (CONTEXTS[0], CONTEXTS[-2]):
                    self.breaks(UnknownName, context.replace("@", place.replace("@", tree)))
            self.everywhere(place.replace("@", "z"), UnknownName)

    def test_unknown_targets(self):
        for name in ("z", "t", "f", "g", "p", "q"):
            for statement in ("@ := 1;", "@ ~ flip(1, 2);", "@ ~ uniform(1, 2);", "@ ~ pick(1 : 1);",
                              "for @ from 0 to 1 { }", "for @ from 1 to 0 { }", "call f(1, b) to @;",
                              "call g() to @;"):
                self.everywhere(statement.replace("@", name), UnknownName)
        for name in ("z", "i", "b", "f", "p"):
            self.everywhere(f"{name}[0] := 1;", UnknownName)

    def test_unknown_procedures(self):
        for name in ("z", "i", "b", "t", "p", "q"):
            self.everywhere(f"call {name}() to b;", UnknownName)

    def test_counts_of_arguments(self):
        for statement in ("call f() to i;", "call f(1) to i;", "call f(1, b, b) to i;",
                          "call g(1) to b;", "call g(1, b) to b;", "call f(1, b, 1, b) to i;"):
            self.everywhere(statement, WrongCount)

    def test_kinds_of_parts(self):
        for place in (*FOR_INTEGERS, *FOR_BOOLEANS):
            for tree in WRONG:
                for context in (CONTEXTS[0], CONTEXTS[-2]):
                    self.breaks(KindMismatch, context.replace("@", place.replace("@", tree)))
            self.everywhere(place.replace("@", "-b"), KindMismatch)

    def test_kinds_of_expressions(self):
        for places, right, wrong in ((FOR_INTEGERS, INTEGERS, BOOLEANS),
                                     (FOR_BOOLEANS, BOOLEANS, INTEGERS)):
            for place in places:
                for tree in right:
                    self.sound(CONTEXTS[0].replace("@", place.replace("@", tree)))
                for tree in wrong:
                    self.breaks(KindMismatch, CONTEXTS[0].replace("@", place.replace("@", tree)))
                self.everywhere(place.replace("@", right[0]))
                self.everywhere(place.replace("@", wrong[0]), KindMismatch)

    def test_kinds_of_targets(self):
        for statement in ("i ~ flip(1, 2);", "b ~ uniform(1, 2);", "for b from 0 to 1 { }",
                          "for b from 1 to 0 { }", "call f(1, b) to b;", "call g() to i;",
                          "i ~ pick(1 : 1, true : 1);", "b ~ pick(true : 1, 1 : 1);",
                          "b ~ pick(1 : 1);", "i ~ pick(b : 1);", "call f(b, 1) to i;",
                          "t[0] := true;", "t[true] := 1;", "i := b;", "b := i;"):
            self.everywhere(statement, KindMismatch)


class OthersTest(Checks):
    """Declarations, procedures, fuel and results."""

    def test_clashes(self):
        proc = "proc {}() int {{ return 1; }} "
        for text in ("int x; int x;", "int x; bool x;", "bool x; bool x;", "int x; array x[1];",
                     "array x[1]; array x[1];", "array x[1]; int y; bool x;",
                     "int x; " + proc.format("x"), "array x[1]; " + proc.format("x"),
                     "bool y; bool x; " + proc.format("z") + proc.format("x"),
                     proc.format("x") + proc.format("x"),
                     proc.format("x") + proc.format("y") + proc.format("x")):
            self.breaks(NameClash, text + " main 0 { } return;")

    def test_clashes_in_procedures(self):
        outer = "int x; array y[1]; proc f() int { return 1; } proc g(@1) int { @2 return 1; } " \
                "proc h() int { return 1; } main 0 { } return;"
        good = outer.replace("@1", "int a, bool b").replace("@2", "int c; bool d;")
        self.sound(good)
        for name in ("x", "y", "f", "g", "h"):
            for old in ("int a", "bool b", "int c", "bool d"):
                self.breaks(NameClash, good.replace(old, old.split()[0] + " " + name))
        for old in ("int a", "bool b", "int c", "bool d"):
            for other in "abcd":
                if not old.endswith(other):
                    self.breaks(NameClash, good.replace(old, old.split()[0] + " " + other))

    def test_no_clashes(self):
        self.sound("proc f(int a, bool b) int { int c; return a; } "
                   "proc g(int c, int a) int { bool b; return a; } main 0 { } return;")
        self.sound("int x; bool y; array z[1]; proc f() int { return 1; } main 0 { } return;")

    def test_sizes_of_arrays(self):
        for size, error in ((0, BadSize), (1, None), (2, None), (20, None), (21, BadSize),
                            (999999999, BadSize)):
            for text in ("array t[@]; main 0 { } return;",
                         "int i; array u[3]; array t[@]; bool b; main 0 { } return;"):
                text = text.replace("@", f"{size}")
                if error is None:
                    self.sound(text)
                else:
                    self.breaks(error, text)

    def test_fuel(self):
        for fuel in range(9):
            self.sound(f"main {fuel} {{ }} return;")
        for fuel in (9, 10, 100, 999999999):
            self.breaks(BadSize, f"main {fuel} {{ }} return;")
            self.breaks(BadSize, HEAD + f"main {fuel} {{ skip; }} return i;")

    def test_results(self):
        for tree in (*INTEGERS, *BOOLEANS):
            self.sound(HEAD + f"main 0 {{ }} return {tree};")
            self.sound(HEAD + f"main 0 {{ }} return {tree}, i, {tree}, b;")
        for trees, error in ((UNKNOWN, UnknownName), (WRONG, KindMismatch)):
            for tree in trees:
                self.breaks(error, HEAD + f"main 0 {{ }} return {tree};")
                self.breaks(error, HEAD + f"main 0 {{ }} return i, {tree};")
                self.breaks(error, HEAD + f"main 0 {{ }} return {tree}, b;")
        self.breaks(UnknownName, HEAD + "main 0 { } return p;")

    def test_values_of_procedures(self):
        whole = HEAD + "proc h() @1 { return @2; } proc k() int { return 1; } main 0 { } return;"
        for kind, right, wrong in (("int", INTEGERS, BOOLEANS), ("bool", BOOLEANS, INTEGERS)):
            for tree in right:
                self.sound(whole.replace("@1", kind).replace("@2", tree))
            for tree in (*wrong, *WRONG):
                self.breaks(KindMismatch, whole.replace("@1", kind).replace("@2", tree))
            for tree in UNKNOWN:
                self.breaks(UnknownName, whole.replace("@1", kind).replace("@2", tree))

    def test_parameters_and_locals(self):
        inside = HEAD + "proc h(int a, bool c) int { int d; bool e; @ return a + d; } main 0 { } return;"
        for statement in ("a := d;", "c := e;", "d := a + i;", "e := c and b;", "t[a] := d;",
                          "a ~ uniform(a, d);", "e ~ flip(a, d);", "for d from 0 to 1 { a := d; }",
                          "call f(a, e) to d;", "call g() to c;", "call h(d, e) to a;"):
            self.sound(inside.replace("@", statement))
            self.breaks(UnknownName, HEAD + "main 0 { @ } return;".replace("@", statement))
        for statement in ("a := e;", "c := d;", "a ~ flip(1, 2);", "e ~ uniform(1, 2);",
                          "call h(e, d) to a;", "for c from 0 to 1 { }"):
            self.breaks(KindMismatch, inside.replace("@", statement))
        for statement in ("p := 1;", "q := b;", "a := p;", "a[0] := 1;", "call a() to d;"):
            self.breaks(UnknownName, inside.replace("@", statement))

    def test_calls_between_procedures(self):
        self.sound("proc f(int a) int { call f(a) to a; return a; } main 1 { } return;")
        self.sound("proc f(int a) int { call g() to a; return a; } "
                   "proc g() int { int c; call f(c) to c; return c; } main 1 { } return;")
        self.breaks(WrongCount, "proc f(int a) int { call g(a) to a; return a; } "
                                "proc g() int { return 1; } main 1 { } return;")
        self.breaks(WrongCount, "proc f(int a) int { call f() to a; return a; } main 1 { } return;")
        self.breaks(KindMismatch, "proc f(int a) int { call g() to a; return a; } "
                                  "proc g() bool { return true; } main 1 { } return;")
        self.breaks(KindMismatch, "proc f(int a) int { call g(a) to a; return a; } "
                                  "proc g(bool c) int { return 1; } main 1 { } return;")
        self.breaks(UnknownName, "proc f(int a) int { call h(a) to a; return a; } "
                                 "proc g() int { return 1; } main 1 { } return;")

    def test_deep_blocks(self):
        for inner, error in (("i := 1;", None), ("i := b;", KindMismatch), ("z := 1;", UnknownName),
                             ("repeat 101 { }", BadSize), ("call g(1) to b;", WrongCount)):
            text = HEAD + "main 0 {" + "if b {" * 22 + inner + "}" * 23 + "return;"
            program = parse_program(text)
            if error is None:
                self.assertIsNone(few_calls(check_program, program))
            else:
                self.refuses(error, few_calls, check_program, program)

    def test_many_statements(self):
        self.sound(HEAD + "main 0 {" + "i := i + 1; call f(i, b) to i;" * 5000 + "} return;")


# For each rule, changes that break it: where they are put, and what is put there.
FAULTS = (
    (NameClash, (("declarations", "int b;"), ("declarations", "array g[1];"),
                 ("procedures", "proc n1(int b) int { return 1; }"),
                 ("procedures", "proc n2() int { int y; int y; return 1; }"),
                 ("procedures", "proc n3() int { bool n3; return 1; }"))),
    (BadSize, (("declarations", "array s1[0];"), ("declarations", "array s2[21];"),
               ("body", "repeat 101 { }"), ("body", "if b { while b max 101 { } }"),
               ("procedures", "proc s3() int { for i from 101 to 0 { } return 1; }"),
               ("procedures", "proc s4() int { for i from 0 to 101 { } return 1; }"),
               ("fuel", "9"))),
    (UnknownName, (("body", "z := 1;"), ("body", "if b { i := i[0]; }"), ("body", "call z() to i;"),
                   ("body", "i[0] := 1;"), ("body", "call g() to z;"), ("results", ", z"),
                   ("procedures", "proc u1() int { return z; }"),
                   ("procedures", "proc u2() int { z ~ flip(1, 2); return 1; }"))),
    (WrongCount, (("body", "call f(1) to i;"), ("body", "repeat 1 { call g(1) to b; }"),
                  ("procedures", "proc w1() int { call f() to i; return 1; }"),
                  ("procedures", "proc w2(int y) int { call w2() to y; return 1; }"))),
    (KindMismatch, (("body", "i := true;"), ("body", "if b { observe 1; }"), ("results", ", -b"),
                    ("body", "call f(true, true) to i;"), ("body", "call g() to i;"),
                    ("procedures", "proc k1() int { return true; }"),
                    ("procedures", "proc k2() int { b ~ uniform(1, 2); return 1; }"))),
)


def program_with(faults):
    """The text of a program with some faults."""
    parts = {"declarations": "", "procedures": "", "fuel": "", "body": "", "results": ""}
    for place, text in faults:
        parts[place] += " " + text
    fuel = parts["fuel"].split()[0] if parts["fuel"] else "2"
    return ("int i; bool b; array t[3];" + parts["declarations"]
            + " proc f(int p, bool q) int { return p; } proc g() bool { return b; }"
            + parts["procedures"] + " main " + fuel + " {" + parts["body"] + " } return i"
            + parts["results"] + ";")


class OrderTest(Case):

    def test_no_fault(self):
        self.assertIsNone(check_program(parse_program(program_with([]))))

    def test_each_fault_alone(self):
        for error, faults in FAULTS:
            for fault in faults:
                program = parse_program(program_with([fault]))
                self.refuses(error, check_program, program)
                self.same(is_sound(program), False)

    def test_each_pair_of_faults(self):
        for at, (error, faults) in enumerate(FAULTS):
            for _, later in FAULTS[at:]:
                for first in faults:
                    for second in later:
                        if first == second:
                            continue
                        for both in ([first, second], [second, first]):
                            program = parse_program(program_with(both))
                            self.refuses(error, check_program, program)

    def test_all_rules_at_once(self):
        for at, (error, _) in enumerate(FAULTS):
            faults = [fault for _, rest in FAULTS[at:] for fault in rest]
            self.refuses(error, check_program, parse_program(program_with(faults)))
            self.refuses(error, check_program, parse_program(program_with(faults[::-1])))

    def test_two_faults_in_one_statement(self):
        for statement, error in (
                ("for z from 0 to 101 { }", BadSize), ("while z max 101 { }", BadSize),
                ("while 1 max 101 { }", BadSize), ("for b from 101 to 0 { }", BadSize),
                ("call z(1, 2) to i;", UnknownName), ("call f(z) to i;", UnknownName),
                ("call f(1) to z;", UnknownName), ("i := z + true;", UnknownName),
                ("i := true + z;", UnknownName), ("z := true + 1;", UnknownName),
                ("t[true] := z;", UnknownName), ("i[true] := 1;", UnknownName),
                ("i ~ flip(z, 1);", UnknownName), ("i ~ pick(true : z);", UnknownName),
                ("call f(true) to i;", WrongCount), ("call f(b) to b;", WrongCount),
                ("call g(-b) to i;", WrongCount), ("call g() to i;", KindMismatch)):
            self.refuses(error, check_program, parse_program(program_with([("body", statement)])))


if __name__ == "__main__":
    unittest.main()
