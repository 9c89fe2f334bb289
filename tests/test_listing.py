"""Point 5.11: texts that show flat programs."""

import unittest

from odds.expressions import parse_expression
from odds.listing import list_flat
from odds.parser import parse_program
from odds.printer import show_expression
from odds.unroll import unroll
from tests.support import Case, Numbers, few_calls, random_tree

ZERO, ONE, TWO = ("num", 0), ("num", 1), ("num", 2)
A, B, C, D = ("cell", 0), ("cell", 1), ("cell", 2), ("cell", 13)
T = ("at", 5, 3, A)

LISTING = """\
cell 0 int
cell 1 bool
cell 2 int
cell 3 int
cell 4 bool
cell 5 bool
cell 6 bool
cell 7 bool
- store c2..c3, c0, 5
- flip c1, 1, 3
- split c4, c5, c1
c4 pick c0, c0 + 1 : 1, 4 : c2..c3[0]
c5 weigh c0, 4
- split c6, c7, c0 < 3
c6 halt
return c0, c1
"""


def instruction_line(*instruction):
    lines = list_flat(((), (instruction,), ())).split("\n")
    assert lines[1:] == ["return", ""], lines
    return lines[0]


def shown(tree):
    lines = list_flat(((), (), (tree,))).split("\n")
    assert lines[1:] == [""] and lines[0].startswith("return "), lines
    return lines[0][7:]


class ListingTest(Case):

    def test_example(self):
        flat = (("int", "bool"), ((1, "set", 0, ("num", 3)), (-1, "halt")), (("cell", 0),))
        self.same(self.pure(list_flat, flat),
                  "cell 0 int\ncell 1 bool\nc1 set c0, 3\n- halt\nreturn c0\n")

    def test_examples_of_instructions(self):
        self.same(instruction_line(3, "store", 5, 3, A, TWO), "c3 store c5..c7, c0, 2")
        self.same(instruction_line(-1, "pick", 0, ((B, ONE), (("num", 4), ("num", 3)))),
                  "- pick c0, c1 : 1, 4 : 3")
        self.same(instruction_line(-1, "split", 1, 2, ("lt", A, ("num", 3))),
                  "- split c1, c2, c0 < 3")

    def test_each_instruction(self):
        for instruction, line in (
                ((-1, "set", 12, ("add", A, ONE)), "- set c12, c0 + 1"),
                ((0, "set", 12, A), "c0 set c12, c0"),
                ((10, "store", 0, 1, ZERO, T), "c10 store c0..c0, 0, c5..c7[c0]"),
                ((-1, "store", 9, 20, ("add", A, ONE), ("neg", TWO)), "- store c9..c28, c0 + 1, -2"),
                ((-1, "flip", 1, A, C), "- flip c1, c0, c2"),
                ((1, "uniform", 0, ("neg", ONE), ONE), "c1 uniform c0, -1, 1"),
                ((-1, "pick", 13, ((("or", B, B), ("sub", C, ONE)),)), "- pick c13, c1 or c1 : c2 - 1"),
                ((2, "pick", 0, ((ONE, TWO), (A, T), (ZERO, ZERO))),
                 "c2 pick c0, 1 : 2, c0 : c5..c7[c0], 0 : 0"),
                ((-1, "observe", ("not", B)), "- observe not c1"),
                ((7, "observe", ("true",)), "c7 observe true"),
                ((-1, "weigh", A, TWO), "- weigh c0, 2"), ((3, "weigh", ONE, TWO), "c3 weigh 1, 2"),
                ((-1, "assert", ("eq", A, C)), "- assert c0 = c2"),
                ((4, "assert", ("false",)), "c4 assert false"),
                ((-1, "fail"), "- fail"), ((4, "fail"), "c4 fail"), ((-1, "halt"), "- halt"),
                ((100, "halt"), "c100 halt"), ((2, "split", 11, 4, B), "c2 split c11, c4, c1")):
            self.same(instruction_line(*instruction), line)

    def test_cells_and_results(self):
        self.same(list_flat(((), (), ())), "return\n")
        self.same(list_flat((("bool",), (), ())), "cell 0 bool\nreturn\n")
        self.same(list_flat((("int",) * 11, (), (A, ("lt", A, ONE), ("cell", 10)))),
                  "".join([f"cell {k} int\n" for k in range(11)]) + "return c0, c0 < 1, c10\n")
        self.same(list_flat(((), ((-1, "fail"),) * 2, (ONE,))), "- fail\n- fail\nreturn 1\n")

    def test_expressions(self):
        for tree, text in (
                (A, "c0"), (D, "c13"), (T, "c5..c7[c0]"), (("at", 0, 1, ZERO), "c0..c0[0]"),
                (("at", 9, 2, ("add", A, ONE)), "c9..c10[c0 + 1]"),
                (("at", 9, 2, ("or", A, B)), "c9..c10[c0 or c1]"),
                (("at", 2, 4, ("at", 5, 1, D)), "c2..c5[c5..c5[c13]]"),
                (("neg", A), "-c0"), (("neg", T), "-c5..c7[c0]"), (("not", B), "not c1"),
                (("neg", ("neg", A)), "-(-c0)"), (("not", ("not", B)), "not (not c1)"),
                (("mul", A, ("neg", T)), "c0 * -c5..c7[c0]"),
                (("sub", A, ("sub", C, D)), "c0 - (c2 - c13)"),
                (("sub", ("sub", A, C), D), "c0 - c2 - c13"),
                (("mul", ("add", A, T), C), "(c0 + c5..c7[c0]) * c2"),
                (("add", ("mul", A, T), C), "c0 * c5..c7[c0] + c2"),
                (("div", A, ("mod", C, D)), "c0 div (c2 mod c13)"),
                (("eq", ("lt", A, C), B), "(c0 < c2) = c1"),
                (("ne", A, ("add", C, ONE)), "c0 != c2 + 1"),
                (("le", ("min", A, C), ("max", T, ("add", C, ONE))),
                 "min(c0, c2) <= max(c5..c7[c0], c2 + 1)"),
                (("and", ("or", B, B), B), "(c1 or c1) and c1"),
                (("or", B, ("or", B, B)), "c1 or (c1 or c1)"),
                (("add", ("cond", B, A, ("or", A, C)), ONE), "(if c1 then c0 else c0 or c2) + 1"),
                (("true",), "true"), (("num", 999999999), "999999999")):
            self.same(self.pure(shown, tree), text)

    def test_as_expressions_of_programs_are_shown(self):
        # Names in place of cells give the texts of point 2.14.
        numbers = Numbers(51)
        places = {"t": (20, 5), "u": (25, 1)}
        for _ in range(300):
            tree = random_tree(numbers, 1 + numbers.below(6))
            text = list_flat(((), (), (self.as_flat(tree, places),)))
            for name, (base, size) in places.items():
                text = text.replace(f"c{base}..c{base + size - 1}[", name + "[")
            for at, name in enumerate("abxyt"):
                text = text.replace(f"c1{at}", name)
            self.same(text, f"return {show_expression(tree)}\n")
            self.same(parse_expression(text[7:-1]), tree)

    def as_flat(self, tree, places):
        if tree[0] == "var":
            return ("cell", 10 + "abxyt".index(tree[1]))
        parts = [self.as_flat(part, places) if isinstance(part, tuple) else part
                 for part in tree[1:]]
        if tree[0] == "item":
            return ("at", *places[tree[1]], parts[1])
        return (tree[0], *parts)

    def test_an_unrolled_program(self):
        program = parse_program("""
            int x; bool b; array t[2];
            main 0 {
              t[x] := 5;
              b ~ flip(1, 3);
              if b { x ~ pick(x + 1 : 1, 4 : t[0]); } else { weigh(x, 4); }
              while x < 3 max 0 { }
            }
            return x, b;""")
        self.same(list_flat(unroll(program)), LISTING)

    def test_forty_levels(self):
        tree, text = A, "c0"
        for level in range(39):
            tree, text = ("at", 7, 3, tree), f"c7..c9[{text}]"
        self.same(few_calls(list_flat, ((), (), (tree,))), f"return {text}\n")


if __name__ == "__main__":
    unittest.main()
