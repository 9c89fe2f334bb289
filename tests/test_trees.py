"""Points 2.6 to 2.10: trees of expressions and statements."""

import unittest

from odds.trees import count_nodes, expressions_of, height, names_in, targets_of
from tests.support import EXAMPLE_PROGRAM, SIGNS, Case, Numbers, random_tree

X, Y, Z = ("var", "x"), ("var", "y"), ("var", "z")
DEEP = ("neg", ("neg", ("item", "t", X)))
BINARY = (*SIGNS, "min", "max")


def parts(tree):
    return [part for part in tree[1:] if isinstance(part, tuple)]


def high(tree):
    return 1 + max([high(part) for part in parts(tree)], default=0)


def many(tree):
    return 1 + sum([many(part) for part in parts(tree)])


def names(tree):
    own = {tree[1]} if tree[0] in ("var", "item") else set()
    return own.union(*[names(part) for part in parts(tree)])


class ExpressionsTest(Case):

    def test_leaves(self):
        for tree, found in ((("num", 0), []), (("num", 999999999), []), (("true",), []),
                            (("false",), []), (X, ["x"])):
            self.same(self.pure(height, tree), 1)
            self.same(self.pure(count_nodes, tree), 1)
            self.same(names_in(tree), found)

    def test_one_part(self):
        for tag in ("neg", "not"):
            self.same(height((tag, X)), 2)
            self.same(count_nodes((tag, X)), 2)
            self.same(names_in((tag, X)), ["x"])
        self.same(height(("item", "t", X)), 2)
        self.same(count_nodes(("item", "t", X)), 2)
        self.same(names_in(("item", "t", X)), ["t", "x"])
        self.same(names_in(("item", "t", ("num", 1))), ["t"])

    def test_two_parts(self):
        for tag in BINARY:
            self.same(height((tag, X, DEEP)), 5)
            self.same(height((tag, DEEP, X)), 5)
            self.same(count_nodes((tag, X, DEEP)), 6)
            self.same(count_nodes((tag, DEEP, DEEP)), 9)
            self.same(names_in((tag, Y, DEEP)), ["t", "x", "y"])
            self.same(names_in((tag, DEEP, Y)), ["t", "x", "y"])

    def test_three_parts(self):
        for tree in (("cond", DEEP, Y, Z), ("cond", Y, DEEP, Z), ("cond", Y, Z, DEEP)):
            self.same(height(tree), 5)
            self.same(count_nodes(tree), 7)
            self.same(names_in(tree), ["t", "x", "y", "z"])

    def test_names_are_different_and_ascending(self):
        tree = ("add", ("add", ("var", "b"), ("item", "b", ("var", "a1"))),
                ("add", ("var", "a_"), ("add", ("var", "ab"), ("var", "a"))))
        self.same(self.pure(names_in, tree), ["a", "a1", "a_", "ab", "b"])
        self.same(self.pure(names_in, ("add", X, X)), ["x"])
        self.same(self.pure(names_in, ("num", 1)), [])

    def test_random(self):
        numbers = Numbers(1)
        for _ in range(300):
            tree = random_tree(numbers, 1 + numbers.below(9))
            self.same(height(tree), high(tree))
            self.same(count_nodes(tree), many(tree))
            self.same(names_in(tree), sorted(names(tree)))

    def test_forty_levels(self):
        tree = X
        for level in range(2, 41):
            tree = ("add", tree, Y) if level % 2 else ("neg", tree)
            self.same(height(tree), level)
        self.same(count_nodes(tree), 59)
        self.same(names_in(tree), ["x", "y"])


class ExpressionsOfTest(Case):

    def test_each_statement(self):
        block = (("set", "x", ("num", 8)), ("observe", ("num", 9)))
        a, b, c, d = ("num", 1), ("num", 2), ("num", 3), ("num", 4)
        for statement, trees in (
                (("skip",), []), (("set", "x", a), [a]), (("store", "t", a, b), [a, b]),
                (("flip", "x", a, b), [a, b]), (("uniform", "x", a, b), [a, b]),
                (("pick", "x", ((a, b),)), [a, b]),
                (("pick", "x", ((d, c), (b, a))), [d, c, b, a]),
                (("observe", a), [a]), (("weigh", a, b), [a, b]), (("assert", a), [a]),
                (("fail",), []), (("if", a, block, block), [a]), (("repeat", 3, block), []),
                (("while", a, 3, block), [a]), (("for", "x", 1, 2, block), []),
                (("call", "f", (), "x"), []), (("call", "f", (a,), "x"), [a]),
                (("call", "f", (c, a, b), "x"), [c, a, b])):
            self.same(self.pure(expressions_of, statement), trees)

    def test_equal_expressions_stay(self):
        self.same(expressions_of(("weigh", X, X)), [X, X])
        self.same(expressions_of(("call", "f", (X, X), "x")), [X, X])


class TargetsOfTest(Case):

    def test_each_statement(self):
        for statement, names_of in (
                (("skip",), []), (("set", "a", X), ["a"]), (("store", "t", X, Y), ["t"]),
                (("flip", "a", X, Y), ["a"]), (("uniform", "a", X, Y), ["a"]),
                (("pick", "a", ((X, Y),)), ["a"]), (("observe", X), []), (("weigh", X, Y), []),
                (("assert", X), []), (("fail",), []), (("if", X, (), ()), []),
                (("repeat", 3, ()), []), (("while", X, 3, ()), []), (("for", "a", 1, 2, ()), ["a"]),
                (("call", "f", (X,), "a"), ["a"])):
            self.same(self.pure(targets_of, (statement,)), names_of)

    def test_blocks_inside(self):
        one, two = (("set", "b", X),), (("set", "a", X),)
        for statement, names_of in (
                (("if", X, one, two), ["a", "b"]), (("if", X, one, ()), ["b"]),
                (("if", X, (), one), ["b"]), (("repeat", 0, one), ["b"]),
                (("while", X, 0, one), ["b"]), (("for", "a", 2, 1, one), ["a", "b"])):
            self.same(self.pure(targets_of, (statement,)), names_of)
            self.same(targets_of((("repeat", 2, (("if", X, (), (statement,)),)),)), names_of)

    def test_different_and_ascending(self):
        self.same(targets_of(()), [])
        block = (("set", "b", X), ("store", "a_", X, X), ("flip", "a1", X, X), ("set", "b", Y),
                 ("for", "ab", 0, 1, (("call", "f", (), "a"), ("pick", "b", ((X, Y),)))))
        self.same(self.pure(targets_of, block), ["a", "a1", "a_", "ab", "b"])

    def test_bodies_of_procedures_do_not_count(self):
        self.same(targets_of(EXAMPLE_PROGRAM[3]), ["b", "t", "x"])
        self.same(targets_of(EXAMPLE_PROGRAM[1][0][4]), ["y"])

    def test_twenty_four_blocks(self):
        block = (("set", "x", X),)
        for level in range(23):
            block = (("set", f"x{level}", X), ("repeat", 1, block))
        self.assertEqual(len(targets_of(block)), 24)


if __name__ == "__main__":
    unittest.main()
