"""Points 5.2, 5.3 and 5.10: flat expressions."""

import unittest

from odds.errors import Fault
from odds.flat import cells_in, evaluate_flat, flatten_expression
from odds.trees import count_nodes, height
from tests.reference import Ended, Flat, Frames, value_of
from tests.samples import ARITHMETIC, COMPARISONS, Cells, Names, tree_of
from tests.support import SIGNS, Case, Numbers, few_calls

LIMIT = 999999999
X, B = ("cell", 0), ("cell", 1)
TRUE, FALSE = ("true",), ("false",)
BAD = ("mod", ("num", 1), ("num", 0))
BAD_TRUTH = ("lt", BAD, ("num", 1))


def literal(number):
    return ("num", number) if number >= 0 else ("neg", ("num", -number))


class EvaluateFlatTest(Case):

    def test_leaves(self):
        state = [7, True, -4, False, LIMIT]
        for cell, value in enumerate(state):
            self.same(self.pure(evaluate_flat, ("cell", cell), state), value)
        self.same(evaluate_flat(("num", 12), []), 12)
        self.same(evaluate_flat(TRUE, []), True)
        self.same(evaluate_flat(FALSE, []), False)

    def test_operations(self):
        state = [-7, True, 2, False]
        y, c = ("cell", 2), ("cell", 3)
        for tree, value in (
                (("neg", X), 7), (("not", B), False), (("not", c), True), (("add", X, y), -5),
                (("sub", X, y), -9), (("mul", X, y), -14), (("div", X, y), -4), (("mod", X, y), 1),
                (("min", X, y), -7), (("max", X, y), 2), (("eq", X, y), False), (("eq", B, B), True),
                (("ne", X, y), True), (("lt", X, y), True), (("le", y, X), False),
                (("and", B, c), False), (("or", B, c), True), (("cond", B, X, y), -7),
                (("cond", c, X, y), 2)):
            self.same(self.pure(evaluate_flat, tree, state), value)

    def test_the_range(self):
        for tag, a, b, value in (("add", LIMIT, 0, LIMIT), ("sub", -LIMIT, 0, -LIMIT),
                                 ("mul", 333333333, -3, -LIMIT), ("div", -LIMIT, -1, LIMIT)):
            self.same(evaluate_flat((tag, X, ("cell", 1)), [a, b]), value)
        for tag, a, b in (("add", LIMIT, 1), ("add", -LIMIT, -1), ("sub", LIMIT, -1),
                          ("sub", -LIMIT, 1), ("mul", 500000000, 2), ("mul", -500000000, 2),
                          ("div", 3, 0), ("mod", 3, 0)):
            self.refuses(Fault, evaluate_flat, (tag, X, ("cell", 1)), [a, b])

    def test_at(self):
        state = [5, True, 10, 11, 12, -LIMIT, 1]
        for index, value in ((0, 10), (1, 11), (2, 12)):
            self.same(self.pure(evaluate_flat, ("at", 2, 3, literal(index)), state), value)
        self.same(evaluate_flat(("at", 5, 1, ("num", 0)), state), -LIMIT)
        self.same(evaluate_flat(("at", 0, 1, ("num", 0)), state), 5)
        self.same(evaluate_flat(("at", 2, 3, ("at", 2, 5, ("num", 4))), state), 11)
        # The cells around the array exist, but they do not belong to it.
        for base, size, index in ((2, 3, -1), (2, 3, 3), (2, 3, -3), (5, 1, 1), (5, 1, -1),
                                  (0, 1, -1), (2, 3, LIMIT), (2, 3, -LIMIT)):
            self.refuses(Fault, evaluate_flat, ("at", base, size, literal(index)), state)
        self.refuses(Fault, evaluate_flat, ("at", 2, 3, BAD), state)

    def test_what_is_evaluated(self):
        self.same(evaluate_flat(("and", FALSE, BAD_TRUTH), []), False)
        self.same(evaluate_flat(("or", TRUE, BAD_TRUTH), []), True)
        self.same(evaluate_flat(("cond", TRUE, ("num", 1), BAD), []), 1)
        self.same(evaluate_flat(("cond", FALSE, BAD, ("num", 1)), []), 1)
        for tree in (("and", TRUE, BAD_TRUTH), ("and", BAD_TRUTH, FALSE), ("or", FALSE, BAD_TRUTH),
                     ("or", BAD_TRUTH, TRUE), ("cond", BAD_TRUTH, TRUE, TRUE), ("neg", BAD),
                     ("cond", TRUE, BAD, ("num", 1)), ("cond", FALSE, ("num", 1), BAD)):
            self.refuses(Fault, evaluate_flat, tree, [])
        for tag in (*ARITHMETIC, *COMPARISONS):
            self.refuses(Fault, evaluate_flat, (tag, BAD, ("num", 1)), [])
            self.refuses(Fault, evaluate_flat, (tag, ("num", 1), BAD), [])

    def test_forty_levels(self):
        tree = X
        for level in range(39):
            tree = ("sub", tree, ("num", 1)) if level % 2 else ("cond", B, tree, BAD)
        self.same(few_calls(evaluate_flat, tree, [3, True]), -16)

    def test_random(self):
        numbers = Numbers(4)
        cells = Cells((0, 2, 3, 4), (1, 5), ((2, 3), (3, 1)))
        faults = 0
        for _ in range(2000):
            tree = tree_of(numbers, numbers.one_of(("int", "bool")), 1 + numbers.below(6), cells)
            state = [numbers.below(2) == 0 if cell in (1, 5) else numbers.below(7) - 3
                     for cell in range(6)]
            try:
                expected = value_of(tree, Flat(state))
            except Ended:
                faults += 1
                self.refuses(Fault, evaluate_flat, tree, state)
            else:
                self.same(evaluate_flat(tree, state), expected, (tree, state))
        self.assertTrue(200 < faults < 1800)


class CellsInTest(Case):

    def test_cells(self):
        self.same(self.pure(cells_in, ("num", 3)), [])
        self.same(cells_in(TRUE), [])
        self.same(self.pure(cells_in, ("cell", 0)), [0])
        self.same(cells_in(("add", ("cell", 9), ("cell", 10))), [9, 10])
        self.same(cells_in(("add", ("cell", 10), ("cell", 9))), [9, 10])
        self.same(cells_in(("mul", ("cell", 4), ("neg", ("cell", 4)))), [4])
        self.same(cells_in(("cond", ("cell", 5), ("cell", 3), ("not", ("cell", 1)))), [1, 3, 5])
        for tag in (*SIGNS, "min", "max"):
            self.same(cells_in((tag, ("cell", 2), ("cell", 0))), [0, 2])

    def test_arrays(self):
        self.same(self.pure(cells_in, ("at", 4, 3, ("num", 0))), [4, 5, 6])
        self.same(cells_in(("at", 4, 1, ("num", 7))), [4])
        self.same(cells_in(("at", 2, 3, ("cell", 8))), [2, 3, 4, 8])
        self.same(cells_in(("at", 2, 3, ("at", 0, 1, ("cell", 9)))), [0, 2, 3, 4, 9])

    def test_example_and_overlaps(self):
        self.same(cells_in(("add", ("cell", 7), ("at", 2, 3, ("cell", 0)))), [0, 2, 3, 4, 7])
        self.same(cells_in(("add", ("cell", 3), ("at", 2, 3, ("cell", 4)))), [2, 3, 4])
        self.same(cells_in(("max", ("at", 2, 3, ("cell", 1)), ("at", 4, 2, ("cell", 2)))),
                  [1, 2, 3, 4, 5])
        self.same(cells_in(("at", 5, 20, ("at", 10, 20, ("cell", 30)))), list(range(5, 31)))

    def test_sizes_are_no_cells(self):
        self.same(cells_in(("at", 10, 2, ("num", 5))), [10, 11])


class FlattenTest(Case):

    def test_names(self):
        places = {"x": 0, "b": 1, "t": (2, 3), "u": (0, 1), "y": 5}
        self.same(self.pure(flatten_expression, ("var", "x"), places), ("cell", 0))
        self.same(flatten_expression(("var", "y"), places), ("cell", 5))
        self.same(flatten_expression(("item", "t", ("num", 2)), places), ("at", 2, 3, ("num", 2)))
        self.same(flatten_expression(("item", "t", ("item", "u", ("var", "x"))), places),
                  ("at", 2, 3, ("at", 0, 1, ("cell", 0))))
        for leaf in (("num", 4), TRUE, FALSE):
            self.same(flatten_expression(leaf, {}), leaf)

    def test_parts(self):
        places = {"x": 3, "b": 4, "t": (6, 2)}
        x, b, t = ("var", "x"), ("var", "b"), ("item", "t", ("var", "x"))
        for tag in ("neg", "not"):
            self.same(flatten_expression((tag, x), places), (tag, ("cell", 3)))
        for tag in (*SIGNS, "min", "max"):
            self.same(flatten_expression((tag, x, t), places),
                      (tag, ("cell", 3), ("at", 6, 2, ("cell", 3))))
            self.same(flatten_expression((tag, t, x), places),
                      (tag, ("at", 6, 2, ("cell", 3)), ("cell", 3)))
        self.same(self.pure(flatten_expression, ("cond", b, x, ("num", 0)), places),
                  ("cond", ("cell", 4), ("cell", 3), ("num", 0)))

    def test_forty_levels(self):
        tree = ("var", "x")
        for level in range(39):
            tree = ("item", "t", tree) if level % 2 else ("neg", tree)
        flat = few_calls(flatten_expression, tree, {"x": 3, "t": (5, 2)})
        self.same(height(flat), 40)
        self.same(count_nodes(flat), 40)
        self.same(cells_in(flat), [3, 5, 6])

    def test_random(self):
        numbers = Numbers(15)
        names = Names(("x", "y"), ("b", "c"), ("t", "u"))
        places = {"x": 3, "y": 0, "b": 7, "c": 1, "t": (4, 3), "u": (2, 1)}
        state = [2, True, 1, -1, 0, 1, 2, False]
        memory = Frames((("array", "t", 3), ("array", "u", 1)))
        memory.own.update({"x": -1, "y": 2, "b": False, "c": True, ("t", 0): 0, ("t", 1): 1,
                           ("t", 2): 2, ("u", 0): 1})
        for _ in range(1500):
            tree = tree_of(numbers, numbers.one_of(("int", "bool")), 1 + numbers.below(6), names)
            flat = flatten_expression(tree, places)
            self.same(count_nodes(flat), count_nodes(tree))
            try:
                expected = value_of(tree, memory)
            except Ended:
                self.refuses(Fault, evaluate_flat, flat, state)
            else:
                self.same(evaluate_flat(flat, state), expected)


if __name__ == "__main__":
    unittest.main()
