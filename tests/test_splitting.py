"""Points 8.4 and 8.5: expressions, evaluated for all assignments at once."""

import unittest

from odds.flat import evaluate_flat
from odds.splitting import split_expression, split_tuples
from odds.store import Store
from tests.diagrams import (assert_split, assignments, diagram_of, random_table, split_of, truth,
                            values_of)
from tests.reference import Ended, Flat, value_of
from tests.samples import FLAT_CELLS, Cells, bool_tree, int_tree, tree_of
from tests.support import Case, Numbers, few_calls, soon

LIMIT = 999999999
LEVELS = 3
ROWS = assignments(LEVELS)
ALL = (True,) * len(ROWS)
CELLS = Cells((0, 2, 3, 4, 6), (1, 5, 7), ((2, 3), (3, 2), (6, 1)))
N = [("num", number) for number in range(20)]
A, B, C, D = [("cell", cell) for cell in range(4)]
TRUE, FALSE = ("true",), ("false",)
BAD = ("div", ("num", 1), ("num", 0))
BAD_TRUTH = ("eq", BAD, BAD)
INTS = (-LIMIT, -3, -1, 0, 1, 2, 5, LIMIT)


class Reads(Flat):
    """The cells of a flat program, which are asked for only if they have values."""

    def __init__(self, state):
        super().__init__(state)
        self.asked = set()

    def read(self, cell):
        self.asked.add(cell)
        return super().read(cell)


def meaning(tree, state):
    """The value of an expression, "fault" if it faults, and the cells that were read."""
    memory = Reads(state)
    try:
        return value_of(tree, memory), memory.asked
    except Ended:
        return "fault", memory.asked


class SplittingCase(Case):

    def check(self, evaluate, s, columns, table, expected, note):
        """The split and the fault of an evaluation, with the splits of the cells.

        A column has the values of a cell under all assignments, `expected` what is expected
        under each of them where the table is True.
        """
        state = [split_of(s, column, LEVELS) for column in columns]
        before = list(state)
        split, fault = evaluate(state, diagram_of(s, table))
        self.same(state, before)
        assert_split(self, split)
        values, faults = values_of(s, split, LEVELS), truth(s, fault, LEVELS)
        for bit, value, found, faulted in zip(table, expected, values, faults):
            self.same(faulted, bit and value == "fault", note)
            self.same(found, None if not bit or value == "fault" else value, note)

    def compare(self, tree, columns, table=ALL):
        """The split of an expression, compared with its values under all assignments."""
        s = Store()
        found = [meaning(tree, [column[at] for column in columns])[0] for at in range(len(ROWS))]
        self.check(lambda state, a: split_expression(s, tree, state, a), s, columns, table, found,
                   tree)
        return found


class ExpressionTest(SplittingCase):

    def test_example(self):
        s = Store()
        self.same(split_expression(s, ("add", A, N[1]), [((4, 1),)], 1), (((5, 1),), 0))

    def test_leaves(self):
        s = Store()
        for a in (1, s.coin(0), s.negate(s.coin(3))):
            self.same(split_expression(s, N[7], [], a), (((7, a),), 0))
            self.same(split_expression(s, N[0], [], a), (((0, a),), 0))
            self.same(split_expression(s, TRUE, [], a), (((True, a),), 0))
            self.same(split_expression(s, FALSE, [], a), (((False, a),), 0))
        state = [((-2, s.coin(0)), (5, s.negate(s.coin(0)))), ((False, 1),)]
        self.same(split_expression(s, A, state, 1), (state[0], 0))
        self.same(split_expression(s, A, state, s.coin(0)), (((-2, s.coin(0)),), 0))
        self.same(split_expression(s, B, state, s.coin(1)), (((False, s.coin(1)),), 0))

    def test_a_condition_of_zero(self):
        s = Store()
        state = [((1, s.coin(0)), (2, s.negate(s.coin(0)))), ()]
        for tree in (N[1], TRUE, A, B, BAD, ("add", A, A), ("neg", BAD), ("not", BAD_TRUTH),
                     ("at", 0, 2, BAD), ("and", BAD_TRUTH, TRUE), ("or", BAD_TRUTH, TRUE),
                     ("cond", BAD_TRUTH, A, B)):
            self.same(split_expression(s, tree, state, 0), ((), 0))
        self.same(split_tuples(s, [A, BAD], state, 0), ((), 0))
        self.same(split_tuples(s, [], state, 0), ((), 0))

    def test_each_operation(self):
        first = [-3, -3, -1, 0, 2, 2, LIMIT, -LIMIT]
        second = [2, -2, 0, 0, 2, -1, 1, 1]
        for tag in ("add", "sub", "mul", "div", "mod", "min", "max", "eq", "ne", "lt", "le"):
            for other in (second, second[::-1], second[3:] + second[:3], [0] * 8):
                for table in (ALL, (True, False) * 4, (False,) * 8):
                    self.compare((tag, A, B), [first, other], table)
                    self.compare((tag, B, A), [first, other], table)
            for number in (0, 1, 3):
                self.compare((tag, A, N[number]), [first])
                self.compare((tag, N[number], A), [first])
        self.compare(("neg", A), [first])

    def test_truths(self):
        first = [False, False, True, True] * 2
        second = [False, True] * 4
        for tag in ("and", "or", "eq", "ne"):
            for table in (ALL, (True, True, False, True) * 2):
                self.compare((tag, A, B), [first, second], table)
                for literal in (TRUE, FALSE):
                    self.compare((tag, A, literal), [first], table)
                    self.compare((tag, literal, A), [first], table)
        self.compare(("not", A), [first])
        self.compare(("not", TRUE), [])
        self.compare(("cond", A, B, ("not", B)), [first, second])
        self.compare(("cond", A, N[4], C), [first, second, [4, 5, 6, 4] * 2])

    def test_limits(self):
        numbers = [LIMIT, LIMIT - 1, -LIMIT, 1 - LIMIT, 0, 1, 99999, -99999]
        found = []
        for tree in (("add", A, N[1]), ("sub", A, N[1]), ("mul", A, N[2]), ("mul", A, A),
                     ("add", A, B), ("sub", A, B), ("mul", A, B), ("neg", A), ("neg", B)):
            found.extend(self.compare(tree, [numbers, numbers[1:] + numbers[:1]]))
        self.assertTrue(LIMIT in found and -LIMIT in found and found.count("fault") > 10)
        # A fault on the way is not made good later.
        self.compare(("sub", ("add", A, N[1]), N[1]), [numbers])
        self.compare(("min", N[0], ("add", A, N[1])), [numbers])

    def test_operands_that_fault(self):
        truths = [False, True] * 4
        numbers = [0, 1, 2, 0, 3, 0, 1, 0]
        for tree in (
                ("add", BAD, A), ("add", A, BAD), ("mul", N[0], ("div", N[4], A)),
                ("eq", ("div", N[4], A), ("mod", N[5], ("sub", A, N[1]))), ("neg", BAD),
                ("at", 0, 1, ("div", N[0], A)), ("max", ("div", N[1], A), A),
                ("cond", B, ("div", N[6], A), A), ("cond", B, A, ("div", N[6], A)),
                ("cond", ("lt", N[0], A), ("div", N[6], A), ("neg", N[1])),
                ("cond", BAD_TRUTH, A, A), ("cond", ("eq", BAD, A), N[1], N[1])):
            self.compare(tree, [numbers, truths])
        bad = ("eq", ("div", N[4], A), N[2])
        for tree in (("and", B, bad), ("or", B, bad), ("and", bad, B), ("or", bad, B),
                     ("and", B, BAD_TRUTH), ("or", B, BAD_TRUTH), ("not", bad),
                     ("and", FALSE, BAD_TRUTH), ("or", TRUE, BAD_TRUTH),
                     ("and", BAD_TRUTH, FALSE), ("or", BAD_TRUTH, TRUE), ("ne", B, bad),
                     ("cond", TRUE, B, BAD_TRUTH), ("cond", FALSE, BAD_TRUTH, B)):
            self.compare(tree, [numbers, truths])

    def test_items(self):
        indexes = [-1, 0, 1, 2, 3, 0, 2, -9]
        first, second, third = [5, 6, 7, 5, 6, 7, 5, 6], [1, 2] * 4, [9] * 8
        for table in (ALL, (True, True, False, False) * 2):
            for base, size in ((1, 3), (1, 1), (2, 2), (3, 1)):
                self.compare(("at", base, size, A), [indexes, first, second, third], table)
                for number in range(4):
                    self.compare(("at", base, size, N[number]),
                                 [indexes, first, second, third], table)
        self.compare(("at", 1, 3, ("at", 0, 2, ("neg", A))), [indexes, first, second, third])

    def test_cells_that_are_not_read(self):
        """They may have no value where the condition is True, or values elsewhere only."""
        s = Store()
        on, off = s.coin(0), s.negate(s.coin(0))
        state = [((False, off), (True, on)), ((3, on),), ((4, off),), (), ((0, off), (2, on))]
        expected = ((3, on), (4, off))
        self.same(split_expression(s, ("cond", A, B, C), state, 1), (expected, 0))
        self.same(split_expression(s, ("at", 1, 3, ("cond", A, N[0], N[1])), state, 1),
                  (expected, 0))
        self.same(split_expression(s, ("and", A, ("eq", B, N[3])), state, 1),
                  (((False, off), (True, on)), 0))
        self.same(split_expression(s, ("or", A, ("eq", C, N[3])), state, 1),
                  (((False, off), (True, on)), 0))
        self.same(split_expression(s, ("cond", A, N[1], N[2]), state, 1)[1], 0)
        self.same(split_expression(s, B, state, on), (((3, on),), 0))
        self.same(split_expression(s, ("at", 1, 1, ("cell", 4)), state, off), (((3, 0),)[:0], 0))
        self.same(split_expression(s, ("at", 1, 1, ("cell", 4)), state, on), ((), on))

    def test_random(self):
        numbers = Numbers(76)
        faults = 0
        for _ in range(1500):
            columns = self.random_columns(numbers)
            tree = (int_tree if numbers.below(2) else bool_tree)(numbers, 4, CELLS)
            found = self.compare(tree, columns, random_table(numbers, LEVELS))
            faults += 0 < found.count("fault") < len(found)
        self.assertTrue(faults > 100, faults)

    def random_columns(self, numbers):
        """For each cell, its values under all assignments."""
        few = [numbers.one_of(INTS), 0, 1, 2]
        return [[numbers.below(2) == 1 if kind == "bool" else numbers.one_of(few) for _ in ROWS]
                for kind in FLAT_CELLS]

    def test_random_without_values(self):
        """As above, but the cells have no values where they are not read."""
        numbers = Numbers(77)
        gaps = 0
        for _ in range(800):
            s = Store()
            columns = self.random_columns(numbers)
            tree = (int_tree if numbers.below(2) else bool_tree)(numbers, 4, CELLS)
            table = random_table(numbers, LEVELS)
            found = []
            for at in range(len(ROWS)):
                value, asked = meaning(tree, [column[at] for column in columns])
                found.append(value)
                for cell, column in enumerate(columns):
                    if cell not in asked or not table[at]:
                        column[at] = None
                        gaps += 1
            self.check(lambda state, a: split_expression(s, tree, state, a), s, columns, table,
                       found, tree)
        self.assertTrue(gaps > 1000)

    def test_many_levels_and_high_trees(self):
        s = Store()
        coins = [s.coin(level) for level in range(1200)]
        some = s.either_of(coins[::300])
        tree = ("cell", 0)
        for _ in range(39):
            tree = ("add", tree, N[1])
        state = [((0, s.negate(some)), (LIMIT - 20, some))]
        self.same(soon(few_calls, split_expression, s, tree, state, 1),
                  (((39, s.negate(some)),), some))
        tree = ("cell", 0)
        for _ in range(39):
            tree = ("not", tree)
        state = [((False, s.negate(some)), (True, some))]
        self.same(few_calls(split_expression, s, tree, state, coins[5]),
                  (((False, s.both(some, coins[5])), (True, s.without(coins[5], some))), 0))


class TuplesTest(SplittingCase):

    def compare_all(self, trees, columns, table):
        s = Store()
        expected = []
        for at in range(len(ROWS)):
            values = [meaning(tree, [column[at] for column in columns])[0] for tree in trees]
            expected.append("fault" if "fault" in values else tuple(values))
        self.check(lambda state, a: split_tuples(s, trees, state, a), s, columns, table, expected,
                   trees)
        return expected

    def test_no_expression(self):
        s = Store()
        for a in (1, s.coin(2), s.negate(s.coin(0))):
            self.same(split_tuples(s, [], [], a), ((((), a),), 0))
            self.same(split_tuples(s, (), [((1, 1),)], a), ((((), a),), 0))

    def test_examples(self):
        s = Store()
        on, off = s.coin(0), s.negate(s.coin(0))
        state = [((1, off), (2, on)), ((False, on), (True, off))]
        self.same(split_tuples(s, [A], state, 1), ((((1,), off), ((2,), on)), 0))
        self.same(split_tuples(s, [B, A], state, 1), ((((False, 2), on), ((True, 1), off)), 0))
        self.same(split_tuples(s, [N[5], TRUE, N[5]], state, on), ((((5, True, 5), on),), 0))
        self.same(split_tuples(s, [A, ("div", N[2], ("sub", A, N[1]))], state, 1),
                  ((((2, 2), on),), off))
        self.same(split_tuples(s, [("div", N[2], ("sub", A, N[1])), A], state, 1),
                  ((((2, 2), on),), off))
        self.same(split_tuples(s, [BAD, ("div", N[2], ("sub", A, N[1]))], state, 1), ((), 1))
        trees = [A, B]
        self.pure(lambda trees: split_tuples(s, trees, state, 1)[1], trees)

    def test_random(self):
        numbers = Numbers(78)
        for _ in range(600):
            columns = [[numbers.below(2) == 1 if kind == "bool" else numbers.below(4) - 1
                        for _ in ROWS] for kind in FLAT_CELLS]
            trees = [tree_of(numbers, numbers.one_of(("int", "bool")), 3, CELLS)
                     for _ in range(numbers.below(4))]
            self.compare_all(trees, columns, random_table(numbers, LEVELS))


class ReferenceTest(Case):

    def test_meaning(self):
        """The second implementation here and `evaluate_flat` agree."""
        state = [4, False]
        self.same(meaning(("add", A, N[2]), state), (evaluate_flat(("add", A, N[2]), state), {0}))
        self.same(meaning(("and", B, BAD_TRUTH), state), (False, {1}))
        self.same(meaning(BAD, state), ("fault", set()))


if __name__ == "__main__":
    unittest.main()
