"""Points 2.14 to 2.17: the texts of expressions and programs."""

import unittest

from odds.errors import OddsError
from odds.expressions import parse_expression
from odds.parser import parse_program
from odds.printer import show_expression, show_program
from odds.tokens import spell, tokenize
from odds.trees import height
from tests.support import (
    EXAMPLE, EXAMPLE_PROGRAM, LEVELS, SIGNS, UNARY, Case, Numbers, few_calls, random_program,
    random_tree,
)

A, B, C, X, Y = ("var", "a"), ("var", "b"), ("var", "c"), ("var", "x"), ("var", "y")
ONE, TWO = ("num", 1), ("num", 2)

# One expression for each tag, with its text.
SAMPLES = [((tag, X, Y), f"x {sign} y") for tag, sign in SIGNS.items()] + [
    (("neg", X), "-x"), (("not", X), "not x"), (("num", 7), "7"), (("true",), "true"),
    (("false",), "false"), (X, "x"), (("item", "t", ONE), "t[1]"), (("min", X, Y), "min(x, y)"),
    (("max", X, Y), "max(x, y)"), (("cond", X, Y, ONE), "(if x then y else 1)"),
]


def level(tree):
    return LEVELS.get(tree[0], 7)


def in_brackets(text, wanted):
    return f"({text})" if wanted else text


class ExpressionsTest(Case):

    def test_example(self):
        self.same(show_expression(("sub", X, ("add", ONE, ("neg", TWO)))), "x - (1 + -2)")

    def test_each_tag(self):
        for tree, text in SAMPLES:
            self.same(show_expression(tree), text)
        self.same(show_expression(("num", 0)), "0")
        self.same(show_expression(("num", 999999999)), "999999999")
        self.same(show_expression(("var", "a_1")), "a_1")

    def test_left_operands(self):
        for tag, sign in SIGNS.items():
            least = 4 if LEVELS[tag] == 3 else LEVELS[tag]
            for tree, text in SAMPLES:
                self.same(show_expression((tag, tree, A)),
                          in_brackets(text, level(tree) < least) + f" {sign} a")

    def test_right_operands(self):
        for tag, sign in SIGNS.items():
            least = 4 if LEVELS[tag] == 3 else LEVELS[tag] + 1
            for tree, text in SAMPLES:
                self.same(show_expression((tag, A, tree)),
                          f"a {sign} " + in_brackets(text, level(tree) < least))

    def test_operands_of_prefixes(self):
        for tree, text in SAMPLES:
            self.same(show_expression(("neg", tree)), "-" + in_brackets(text, level(tree) < 7))
            self.same(show_expression(("not", tree)), "not " + in_brackets(text, level(tree) < 7))

    def test_other_places(self):
        for tree, text in SAMPLES:
            self.same(show_expression(("item", "t", tree)), f"t[{text}]")
            self.same(show_expression(("min", tree, A)), f"min({text}, a)")
            self.same(show_expression(("min", A, tree)), f"min(a, {text})")
            self.same(show_expression(("max", tree, A)), f"max({text}, a)")
            self.same(show_expression(("max", A, tree)), f"max(a, {text})")
            self.same(show_expression(("cond", tree, A, B)), f"(if {text} then a else b)")
            self.same(show_expression(("cond", A, tree, B)), f"(if a then {text} else b)")
            self.same(show_expression(("cond", A, B, tree)), f"(if a then b else {text})")

    def test_longer_ones(self):
        for text in ("a - b - c", "a - (b - c)", "a * b + c div x mod y", "(a + b) * c", "-a * b",
                     "-(a * b)", "-(-a)", "not (not a)", "not (-a)", "-(not a)", "a = b and b = c",
                     "(a = b) = c", "a = (b = c)", "(a and b) = c", "a or b and c", "(a or b) and c",
                     "a and (b or c)", "a or (b or c)", "a and (b and c)", "not a = b",
                     "not (a = b)", "a - -b", "a - (b + c)", "a div (b * c)", "t[t[a + 1] * 2]",
                     "-t[a]", "(if a then b else c) + 1", "-(if a then b else c)",
                     "(if (if a then b else c) then a or b else (if a then b else c))",
                     "min(max(a, b), a = b or c)", "-min(a, b)", "a + b <= c - x",
                     "a * (b mod c) - (x - y)", "(a < b) != (b < c)", "not true or false"):
            self.same(show_expression(parse_expression(text)), text)

    def test_read_again(self):
        numbers = Numbers(8)
        for _ in range(1500):
            tree = random_tree(numbers, 1 + numbers.below(9))
            self.same(parse_expression(self.pure(show_expression, tree)), tree)

    def test_fewest_brackets(self):
        numbers = Numbers(9)
        for _ in range(400):
            tree = random_tree(numbers, 1 + numbers.below(6))
            tokens = tokenize(show_expression(tree))
            self.assertEqual(show_expression(parse_expression("(((" + spell(tokens) + ")))")),
                             show_expression(tree))
            for first, last in pairs_of_brackets(tokens):
                fewer = tokens[:first] + tokens[first + 1:last] + tokens[last + 1:]
                self.assertNotEqual(tree_or_none(fewer), tree, spell(tokens))

    def test_twenty_four_levels(self):
        for front, back in (("-(", ")"), ("t[", "]"), ("1 + (", ")"), ("(if x then 1 else ", ")"),
                            ("min(1, ", ")"), ("(", " < 1)"), ("(x or ", ")")):
            tree = parse_expression(front * 23 + "x" + back * 23)
            self.same(height(tree), 24)
            self.same(parse_expression(few_calls(show_expression, tree)), tree)


def pairs_of_brackets(tokens):
    """The places of the round brackets and their partners."""
    waiting, pairs = [], []
    for at, token in enumerate(tokens):
        if token == "(":
            waiting.append(at)
        if token == ")":
            pairs.append((waiting.pop(), at))
    return pairs


def tree_or_none(tokens):
    try:
        return parse_expression(spell(tokens))
    except OddsError:
        return None


class ProgramsTest(Case):

    def test_example(self):
        self.same(self.pure(show_program, EXAMPLE_PROGRAM), EXAMPLE)
        self.same(show_program(parse_program(EXAMPLE)), EXAMPLE)
        self.same(show_program(parse_program(spell(tokenize(EXAMPLE)))), EXAMPLE)

    def test_least_program(self):
        self.same(show_program(((), (), 0, (), ())), "main 0 {\n}\nreturn;\n")
        self.same(show_program(((), (), 8, (), (X,))), "main 8 {\n}\nreturn x;\n")
        self.same(show_program(((), (), 0, (("skip",),), (X, ("or", X, Y), ONE))),
                  "main 0 {\n  skip;\n}\nreturn x, x or y, 1;\n")

    def test_declarations(self):
        program = ((("array", "t", 20), ("bool", "b", 0), ("int", "i", 0)), (), 1, (), ())
        self.same(show_program(program),
                  "array t[20];\nbool b;\nint i;\nmain 1 {\n}\nreturn;\n")

    def test_procedures(self):
        procedures = (
            ("f", "bool", (), (("bool", "b"), ("int", "i")), (("if", B, (), ()),), ("true",)),
            ("g", "int", (("bool", "a"),), (), (), ("add", X, ONE)),
            ("h", "int", (("int", "a"), ("int", "b"), ("bool", "c")), (), (("fail",),), X))
        self.same(show_program(((), procedures, 0, (), ())), """\
proc f() bool {
  bool b;
  int i;
  if b {
  }
  return true;
}
proc g(bool a) int {
  return x + 1;
}
proc h(int a, int b, bool c) int {
  fail;
  return x;
}
main 0 {
}
return;
""")

    def test_each_statement(self):
        skip, fail = (("skip",),), (("fail",),)
        for statement, lines in (
                (("skip",), ["skip;"]), (("fail",), ["fail;"]), (("set", "x", A), ["x := a;"]),
                (("store", "t", ("add", A, ONE), B), ["t[a + 1] := b;"]),
                (("flip", "x", ("or", A, B), TWO), ["x ~ flip(a or b, 2);"]),
                (("uniform", "x", ("neg", ONE), B), ["x ~ uniform(-1, b);"]),
                (("pick", "x", ((A, B),)), ["x ~ pick(a : b);"]),
                (("pick", "x", ((A, B), (("or", A, B), ("add", A, B)), (ONE, TWO))),
                 ["x ~ pick(a : b, a or b : a + b, 1 : 2);"]),
                (("observe", ("or", A, B)), ["observe a or b;"]),
                (("weigh", A, ("or", A, B)), ["weigh(a, a or b);"]),
                (("assert", ("not", A)), ["assert not a;"]),
                (("if", ("or", A, B), (), ()), ["if a or b {", "}"]),
                (("if", A, skip, ()), ["if a {", "  skip;", "}"]),
                (("if", A, (), fail), ["if a {", "} else {", "  fail;", "}"]),
                (("if", A, skip, fail), ["if a {", "  skip;", "} else {", "  fail;", "}"]),
                (("repeat", 0, ()), ["repeat 0 {", "}"]),
                (("repeat", 100, skip + fail), ["repeat 100 {", "  skip;", "  fail;", "}"]),
                (("while", ("le", A, B), 7, ()), ["while a <= b max 7 {", "}"]),
                (("while", ("cond", A, B, C), 7, skip),
                 ["while (if a then b else c) max 7 {", "  skip;", "}"]),
                (("for", "x", 3, 100, ()), ["for x from 3 to 100 {", "}"]),
                (("for", "x", 3, 0, skip), ["for x from 3 to 0 {", "  skip;", "}"]),
                (("call", "f", (), "x"), ["call f() to x;"]),
                (("call", "f", (A,), "x"), ["call f(a) to x;"]),
                (("call", "f", (A, ("or", A, B), ONE), "x"), ["call f(a, a or b, 1) to x;"])):
            self.same(show_program(((), (), 0, (statement,), ())),
                      "\n".join(["main 0 {", *["  " + line for line in lines], "}", "return;", ""]))
            outer = ("repeat", 2, (("if", X, (), (statement,)),))
            self.same(show_program(((), (), 0, (outer,), ())),
                      "\n".join(["main 0 {", "  repeat 2 {", "    if x {", "    } else {",
                                 *["      " + line for line in lines],
                                 "    }", "  }", "}", "return;", ""]))

    def test_deep_blocks(self):
        block = (("skip",),)
        for _ in range(23):
            block = (("if", A, block, ()),)
        text = few_calls(show_program, ((), (), 0, block, ()))
        self.assertIn("\n" + "  " * 24 + "skip;\n", text)
        self.same(parse_program(text), ((), (), 0, block, ()))

    def test_read_again(self):
        numbers = Numbers(10)
        for _ in range(400):
            program = random_program(numbers)
            text = self.pure(show_program, program)
            self.same(parse_program(text), program)
            self.same(show_program(parse_program(spell(tokenize(text)))), text)


if __name__ == "__main__":
    unittest.main()
