"""Points 4.1 and 4.2: the values of expressions."""

import unittest

from odds.errors import Fault
from odds.values import LIMIT, evaluate
from tests.reference import Ended, Frames, value_of
from tests.samples import Names, tree_of
from tests.support import Case, Numbers, few_calls

X, B = ("var", "x"), ("var", "b")
TRUE, FALSE = ("true",), ("false",)
# An expression of each kind that faults.
BAD = ("div", ("num", 1), ("num", 0))
BAD_TRUTH = ("eq", BAD, ("num", 1))
ARITHMETIC = ("add", "sub", "mul", "div", "mod", "min", "max")
COMPARISONS = ("eq", "ne", "lt", "le")


def literal(number):
    return ("num", number) if number >= 0 else ("neg", ("num", -number))


class ValuesTest(Case):

    def of(self, tag, *numbers):
        """The value for operands that are variables."""
        names = ("x", "y", "z")[:len(numbers)]
        tree = (tag, *[("var", name) for name in names])
        return evaluate(tree, dict(zip(names, numbers)))

    def faults(self, tag, *numbers):
        names = ("x", "y", "z")[:len(numbers)]
        self.refuses(Fault, evaluate, (tag, *[("var", name) for name in names]),
                     dict(zip(names, numbers)))

    def test_limit(self):
        self.same(LIMIT, 999999999)

    def test_examples(self):
        self.same(evaluate(("div", ("neg", ("num", 7)), ("var", "x")), {"x": 2}), -4)
        tree = ("or", ("true",), ("eq", ("mod", ("num", 1), ("num", 0)), ("num", 0)))
        self.same(evaluate(tree, {}), True)

    def test_leaves(self):
        for number in (0, 1, 17, LIMIT):
            self.same(evaluate(("num", number), {}), number)
        self.same(evaluate(TRUE, {}), True)
        self.same(evaluate(FALSE, {}), False)
        for value in (0, 1, -LIMIT, LIMIT, True, False):
            self.same(evaluate(X, {"x": value, "y": 7}), value)

    def test_small_numbers(self):
        for a in range(-7, 8):
            self.same(self.of("neg", a), -a)
            for b in range(-7, 8):
                self.same(self.of("add", a, b), a + b)
                self.same(self.of("sub", a, b), a - b)
                self.same(self.of("mul", a, b), a * b)
                self.same(self.of("min", a, b), [a, b][b < a])
                self.same(self.of("max", a, b), [a, b][b > a])
                self.same(self.of("eq", a, b), a - b == 0)
                self.same(self.of("ne", a, b), a - b != 0)
                self.same(self.of("lt", a, b), a - b < 0)
                self.same(self.of("le", a, b), a - b <= 0)

    def test_signs_of_quotients(self):
        for a, b, quotient, remainder in (
                (7, 2, 3, 1), (-7, 2, -4, 1), (7, -2, -4, -1), (-7, -2, 3, -1),
                (6, 3, 2, 0), (-6, 3, -2, 0), (6, -3, -2, 0), (-6, -3, 2, 0),
                (0, 5, 0, 0), (0, -5, 0, 0), (1, 9, 0, 1), (-1, 9, -1, 8), (1, -9, -1, -8),
                (-1, -9, 0, -1), (LIMIT, 1, LIMIT, 0), (LIMIT, -1, -LIMIT, 0),
                (-LIMIT, -1, LIMIT, 0), (-LIMIT, 2, -500000000, 1), (LIMIT, LIMIT, 1, 0)):
            self.same(self.of("div", a, b), quotient)
            self.same(self.of("mod", a, b), remainder)

    def test_quotients_by_zero(self):
        for a in (-LIMIT, -1, 0, 1, LIMIT):
            self.faults("div", a, 0)
            self.faults("mod", a, 0)

    def test_the_range(self):
        for tag, a, b, result in (
                ("add", LIMIT - 1, 1, LIMIT), ("add", LIMIT, 0, LIMIT),
                ("add", 1 - LIMIT, -1, -LIMIT), ("add", LIMIT, -LIMIT, 0),
                ("sub", LIMIT - 1, -1, LIMIT), ("sub", 0, LIMIT, -LIMIT),
                ("sub", 1 - LIMIT, 1, -LIMIT), ("sub", -LIMIT, -LIMIT, 0),
                ("mul", 333333333, 3, LIMIT), ("mul", -333333333, 3, -LIMIT),
                ("mul", 333333333, -3, -LIMIT), ("mul", -333333333, -3, LIMIT),
                ("mul", LIMIT, -1, -LIMIT), ("mul", LIMIT, 0, 0)):
            self.same(self.of(tag, a, b), result)
        for tag, a, b in (
                ("add", LIMIT, 1), ("add", 1, LIMIT), ("add", -LIMIT, -1), ("add", LIMIT, LIMIT),
                ("add", -LIMIT, -LIMIT), ("sub", LIMIT, -1), ("sub", -LIMIT, 1),
                ("sub", LIMIT, -LIMIT), ("sub", -1, LIMIT), ("mul", 500000000, 2),
                ("mul", -500000000, 2), ("mul", 500000000, -2), ("mul", -500000000, -2),
                ("mul", LIMIT, LIMIT), ("mul", LIMIT, -LIMIT)):
            self.faults(tag, a, b)

    def test_parts_have_to_be_in_range_too(self):
        self.refuses(Fault, evaluate, ("sub", ("add", X, ("num", 1)), ("num", 1)), {"x": LIMIT})
        self.refuses(Fault, evaluate, ("mul", ("sub", X, ("num", 1)), ("num", 0)), {"x": -LIMIT})
        self.refuses(Fault, evaluate, ("div", ("mul", X, X), X), {"x": 100000})

    def test_operations_that_never_fault(self):
        for a in (-LIMIT, 0, LIMIT):
            self.same(self.of("neg", a), -a)
            for b in (-LIMIT, 0, LIMIT):
                self.same(self.of("min", a, b), sorted([a, b])[0])
                self.same(self.of("max", a, b), sorted([a, b])[1])
                self.same(self.of("lt", a, b), a < b)

    def test_booleans(self):
        for a in (False, True):
            self.same(self.of("not", a), a is False)
            for b in (False, True):
                self.same(self.of("and", a, b), [a, b] == [True, True])
                self.same(self.of("or", a, b), [a, b] != [False, False])
                self.same(self.of("eq", a, b), a is b)
                self.same(self.of("ne", a, b), a is not b)
                for c in (False, True):
                    self.same(self.of("cond", a, b, c), [c, b][a])
            self.same(self.of("cond", a, 8, -9), [-9, 8][a])

    def test_items(self):
        values = {"t": [5, -6, 7, LIMIT], "u": [3], "x": 2}
        for index, item in enumerate(values["t"]):
            self.same(self.pure(evaluate, ("item", "t", literal(index)), values), item)
        self.same(evaluate(("item", "u", ("num", 0)), values), 3)
        self.same(evaluate(("item", "t", X), values), 7)
        self.same(evaluate(("item", "t", ("item", "u", ("num", 0))), values), LIMIT)
        for name, index in (("t", -1), ("t", 4), ("t", -4), ("t", -LIMIT), ("t", LIMIT), ("u", -1),
                            ("u", 1)):
            self.refuses(Fault, evaluate, ("item", name, literal(index)), values)
        self.refuses(Fault, evaluate, ("item", "t", ("item", "t", ("num", 1))), values)
        self.refuses(Fault, evaluate, ("item", "t", BAD), values)

    def test_operands_that_are_not_evaluated(self):
        self.same(evaluate(("and", FALSE, BAD_TRUTH), {}), False)
        self.same(evaluate(("or", TRUE, BAD_TRUTH), {}), True)
        self.same(evaluate(("cond", TRUE, ("num", 4), BAD), {}), 4)
        self.same(evaluate(("cond", FALSE, BAD, ("num", 4)), {}), 4)
        self.same(evaluate(("cond", TRUE, FALSE, BAD_TRUTH), {}), False)
        self.same(evaluate(("cond", FALSE, BAD_TRUTH, TRUE), {}), True)
        self.same(evaluate(("and", ("and", FALSE, BAD_TRUTH), BAD_TRUTH), {}), False)

    def test_operands_that_are_evaluated(self):
        for tree in (("and", TRUE, BAD_TRUTH), ("and", BAD_TRUTH, FALSE), ("and", BAD_TRUTH, TRUE),
                     ("or", FALSE, BAD_TRUTH), ("or", BAD_TRUTH, TRUE), ("or", BAD_TRUTH, FALSE),
                     ("cond", TRUE, BAD, ("num", 4)), ("cond", FALSE, ("num", 4), BAD),
                     ("cond", BAD_TRUTH, ("num", 4), ("num", 4)), ("neg", BAD), ("not", BAD_TRUTH),
                     BAD, BAD_TRUTH):
            self.refuses(Fault, evaluate, tree, {})
        for tag in (*ARITHMETIC, *COMPARISONS):
            self.refuses(Fault, evaluate, (tag, BAD, ("num", 1)), {})
            self.refuses(Fault, evaluate, (tag, ("num", 1), BAD), {})
        self.refuses(Fault, evaluate, ("mul", ("num", 0), BAD), {})
        for tag in ("eq", "ne"):
            self.refuses(Fault, evaluate, (tag, BAD_TRUTH, TRUE), {})
            self.refuses(Fault, evaluate, (tag, FALSE, BAD_TRUTH), {})

    def test_values_stay_as_they_were(self):
        values = {"x": 2, "b": True, "t": [1, 2, 3]}
        self.same(self.pure(evaluate, ("cond", B, ("add", X, ("item", "t", X)), X), values), 5)
        self.refuses(Fault, evaluate, ("add", X, ("item", "t", ("num", 3))), values)

    def test_forty_levels_and_somewhat_more(self):
        for levels in (40, 50):
            numbers, truths = X, B
            for level in range(levels - 1):
                numbers = ("add", ("num", 1), numbers) if level % 2 else ("cond", B, numbers, BAD)
                truths = ("and", B, truths) if level % 2 else ("not", ("not", truths))
            self.same(few_calls(evaluate, numbers, {"x": 0, "b": True}), (levels - 1) // 2)
            self.same(few_calls(evaluate, truths, {"b": True}), True)

    def test_random(self):
        numbers = Numbers(42)
        names = Names(("x", "y"), ("b", "c"), ("t",))
        faults = 0
        for _ in range(3000):
            kind = numbers.one_of(("int", "bool"))
            tree = tree_of(numbers, kind, 1 + numbers.below(6), names)
            values = {"x": numbers.below(7) - 3, "y": numbers.below(3), "b": numbers.below(2) == 0,
                      "c": numbers.below(2) == 0, "t": [numbers.below(5) - 2 for _ in range(3)]}
            memory = Frames((("array", "t", 3),))
            memory.own.update(values)
            memory.own.update({("t", at): values["t"][at] for at in range(3)})
            try:
                expected = value_of(tree, memory)
            except Ended:
                faults += 1
                self.refuses(Fault, evaluate, tree, values)
            else:
                self.same(evaluate(tree, values), expected, (tree, values))
        self.assertTrue(300 < faults < 2700)


if __name__ == "__main__":
    unittest.main()
