"""Points 6.1 to 6.4: spans of flat expressions, and whether they are safe."""

import unittest

from odds.errors import Fault
from odds.flat import evaluate_flat
from odds.spans import is_safe, span_of
from tests import reference_spans
from tests.samples import Cells, tree_of
from tests.support import Case, Numbers, few_calls

LIMIT = 999999999
A, B, C, D = ("cell", 0), ("cell", 1), ("cell", 2), ("cell", 3)
TRUE, FALSE = ("true",), ("false",)
NEVER, ALWAYS, UNKNOWN = (0, 0), (1, 1), (0, 1)
SMALL = [(low, high) for low in range(-3, 4) for high in range(low, 4)]
TRUTHS = [NEVER, ALWAYS, UNKNOWN]
BAD = ("div", ("num", 1), ("num", 0))
BAD_TRUTH = ("eq", BAD, BAD)


def values_in(span, kind="int"):
    numbers = range(span[0], span[1] + 1)
    return [number == 1 for number in numbers] if kind == "bool" else list(numbers)


def outcomes_of(tree, spans, kinds):
    """All values of an expression for all states, as a set, with "fault" for a fault."""
    states = [[]]
    for span, kind in zip(spans, kinds):
        states = [[*state, value] for state in states for value in values_in(span, kind)]
    found = set()
    for state in states:
        try:
            found.add(int(evaluate_flat(tree, state)))
        except Fault:
            found.add("fault")
    return found


class SpanCase(Case):

    def spans(self, tree, spans, expected):
        self.same(self.pure(span_of, tree, list(spans)), expected, (tree, spans))

    def binary(self, tag, first, second, expected):
        self.spans((tag, A, B), [first, second], expected)

    def holds(self, tree, spans, kinds):
        """The span holds for all states, and the values if the expression does not fault."""
        found = outcomes_of(tree, spans, kinds)
        values = found - {"fault"}
        span = span_of(tree, list(spans))
        self.assertTrue(all([span[0] <= value <= span[1] for value in values]), (tree, spans))
        if is_safe(tree, list(spans)):
            self.assertNotIn("fault", found, (tree, spans))
        return span, values, "fault" in found


class SpanTest(SpanCase):

    def test_example(self):
        self.same(span_of(("div", ("cell", 0), ("cell", 1)), [(-7, 5), (-2, 3)]), (-7, 7))

    def test_leaves(self):
        for number in (0, 1, LIMIT):
            self.spans(("num", number), [], (number, number))
        self.spans(TRUE, [], ALWAYS)
        self.spans(FALSE, [], NEVER)
        self.spans(B, [(1, 2), (-LIMIT, LIMIT), (5, 5)], (-LIMIT, LIMIT))

    def test_at(self):
        spans = [(0, 0), (1, 2), (-5, -4), (3, 7), (9, 9)]
        for index, expected in (((0, 0), (1, 2)), ((1, 1), (-5, -4)), ((2, 2), (3, 7)),
                                ((0, 1), (-5, 2)), ((1, 2), (-5, 7)), ((0, 2), (-5, 7)),
                                ((-3, 0), (1, 2)), ((2, 9), (3, 7)), ((-LIMIT, LIMIT), (-5, 7)),
                                ((3, 3), NEVER), ((3, 9), NEVER), ((-1, -1), NEVER),
                                ((-LIMIT, -1), NEVER)):
            self.spans(("at", 1, 3, A), [index, *spans[1:]], expected)
        self.spans(("at", 4, 1, ("num", 0)), spans, (9, 9))
        self.spans(("at", 4, 1, ("num", 1)), spans, NEVER)

    def test_unary(self):
        for low, high in (*SMALL, (-LIMIT, LIMIT), (LIMIT, LIMIT)):
            self.spans(("neg", A), [(low, high)], (-high, -low))
        for span, expected in ((NEVER, ALWAYS), (ALWAYS, NEVER), (UNKNOWN, UNKNOWN)):
            self.spans(("not", A), [span], expected)

    def test_sums_differences_and_products(self):
        self.binary("add", (1, 2), (-5, 7), (-4, 9))
        self.binary("sub", (1, 2), (-5, 7), (-6, 7))
        self.binary("mul", (1, 2), (-5, 7), (-10, 14))
        self.binary("mul", (-3, 2), (-5, 7), (-21, 15))
        self.binary("mul", (-3, -2), (-5, -4), (8, 15))
        self.binary("mul", (0, 0), (-LIMIT, LIMIT), NEVER)

    def test_clipping(self):
        top, bottom = (LIMIT, LIMIT), (-LIMIT, -LIMIT)
        self.binary("add", (LIMIT - 1, LIMIT - 1), (1, 1), top)
        self.binary("add", (1, LIMIT), (0, 1), (1, LIMIT))
        self.binary("add", top, top, top)
        self.binary("add", (-LIMIT, 5), (-1, 0), (-LIMIT, 5))
        self.binary("sub", (-LIMIT, LIMIT), (-1, 1), (-LIMIT, LIMIT))
        self.binary("sub", bottom, (1, 1), bottom)
        self.binary("sub", (0, 1), bottom, top)
        self.binary("mul", (0, 100000), (0, 100000), (0, LIMIT))
        self.binary("mul", (-100000, 3), (2, 100000), (-LIMIT, 300000))
        self.binary("mul", top, (2, 2), top)

    def test_quotients(self):
        for first, second, expected in (
                ((-7, 5), (0, 0), NEVER), ((3, 9), (0, 0), NEVER), ((-7, 5), (2, 2), (-4, 2)),
                ((-7, 5), (-2, -2), (-3, 3)), ((6, 9), (2, 4), (1, 4)), ((-9, -6), (2, 4), (-5, -2)),
                ((6, 9), (0, 4), (1, 9)), ((6, 9), (-4, 0), (-9, -2)), ((6, 9), (-4, 3), (-9, 9)),
                ((6, 9), (-1, 0), (-9, -6)), ((6, 9), (0, 1), (6, 9)), ((0, 0), (-4, 3), NEVER),
                ((1, 1), (-4, -3), (-1, -1)), ((-1, 1), (5, 9), (-1, 0)),
                ((-LIMIT, LIMIT), (-1, 1), (-LIMIT, LIMIT)), ((LIMIT, LIMIT), (2, LIMIT), (1, 499999999)),
                ((-LIMIT, -LIMIT), (2, LIMIT), (-500000000, -1))):
            self.binary("div", first, second, expected)

    def test_remainders(self):
        for first, second, expected in (
                ((-7, 5), (0, 0), NEVER), ((3, 9), (0, 0), NEVER), ((7, 9), (5, 5), (2, 4)),
                ((5, 9), (5, 5), (0, 4)), ((4, 5), (5, 5), (0, 4)), ((7, 7), (5, 5), (2, 2)),
                ((-3, -1), (5, 5), (2, 4)), ((-1, 0), (5, 5), (0, 4)), ((-4, -1), (-5, -5), (-4, -1)),
                ((1, 4), (-5, -5), (-4, -1)), ((0, 1), (-5, -5), (-4, 0)), ((7, 7), (4, 5), (0, 4)),
                ((7, 7), (-5, -4), (-4, 0)), ((7, 7), (-5, 3), (-4, 2)), ((0, 0), (0, 3), (0, 2)),
                ((9, 9), (-3, 0), (-2, 0)), ((9, 9), (0, 1), NEVER), ((9, 9), (-1, 1), NEVER),
                ((-LIMIT, LIMIT), (LIMIT, LIMIT), (0, LIMIT - 1)), ((0, 99), (100, 100), (0, 99))):
            self.binary("mod", first, second, expected)

    def test_least_and_greatest(self):
        self.binary("min", (1, 9), (4, 5), (1, 5))
        self.binary("max", (1, 9), (4, 5), (4, 9))
        self.binary("min", (-3, -2), (4, 5), (-3, -2))
        self.binary("max", (-3, -2), (4, 5), (4, 5))

    def test_comparisons(self):
        for first, second, equal, less, at_most in (
                ((1, 2), (3, 4), NEVER, ALWAYS, ALWAYS), ((3, 4), (1, 2), NEVER, NEVER, NEVER),
                ((1, 3), (3, 4), UNKNOWN, UNKNOWN, ALWAYS), ((3, 4), (1, 3), UNKNOWN, NEVER, UNKNOWN),
                ((2, 2), (2, 2), ALWAYS, NEVER, ALWAYS), ((1, 2), (1, 2), UNKNOWN, UNKNOWN, UNKNOWN),
                ((2, 2), (2, 3), UNKNOWN, UNKNOWN, ALWAYS), ((2, 2), (1, 2), UNKNOWN, NEVER, UNKNOWN),
                ((1, 9), (3, 4), UNKNOWN, UNKNOWN, UNKNOWN), ((3, 3), (4, 4), NEVER, ALWAYS, ALWAYS),
                ((4, 4), (3, 3), NEVER, NEVER, NEVER)):
            self.binary("eq", first, second, equal)
            self.binary("ne", first, second, (1 - equal[1], 1 - equal[0]))
            self.binary("lt", first, second, less)
            self.binary("le", first, second, at_most)

    def test_truths(self):
        for first in TRUTHS:
            for second in TRUTHS:
                self.binary("and", first, second,
                            (first[0] * second[0], first[1] * second[1]))
                self.binary("or", first, second,
                            tuple([min(1, a + b) for a, b in zip(first, second)]))

    def test_cond(self):
        spans = [(0, 1), (-3, 4), (7, 8)]
        self.spans(("cond", A, B, C), spans, (-3, 8))
        self.spans(("cond", A, B, C), [ALWAYS, *spans[1:]], (-3, 4))
        self.spans(("cond", A, B, C), [NEVER, *spans[1:]], (7, 8))
        self.spans(("cond", A, ("num", 3), ("num", 3)), [UNKNOWN], (3, 3))
        self.spans(("cond", ("lt", B, C), B, C), spans, (-3, 4))
        self.spans(("cond", A, C, B), spans, (-3, 8))

    def test_search_over_small_spans(self):
        # These spans are the least ones, except that those of `mod` may be greater.
        for tag in ("add", "sub", "mul", "min", "max", "eq", "ne", "lt", "le", "div", "mod"):
            for first in SMALL:
                for second in SMALL:
                    spans = [first, second]
                    span, values, _ = self.holds((tag, A, B), spans, ("int", "int"))
                    self.same(span, reference_spans.span((tag, A, B), spans))
                    if not values:
                        self.same(span, NEVER)
                    elif tag != "mod":
                        self.same(span, (min(values), max(values)), (tag, spans))
                    self.same(is_safe((tag, A, B), spans),
                              tag not in ("div", "mod") or 0 not in values_in(second))

    def test_search_over_larger_quotients(self):
        for first in ((-9, -5), (-9, 0), (-8, 7), (0, 0), (0, 9), (4, 9)):
            for low in range(-9, 10):
                for high in range(low, 10):
                    for tag in ("div", "mod"):
                        spans = [first, (low, high)]
                        span, values, _ = self.holds((tag, A, B), spans, ("int", "int"))
                        self.same(span, reference_spans.span((tag, A, B), spans))
                        if values and tag == "div":
                            self.same(span, (min(values), max(values)))

    def test_search_over_truths(self):
        kinds = ("bool", "bool")
        for tag in ("and", "or", "eq", "ne"):
            for first in TRUTHS:
                for second in TRUTHS:
                    span, values, _ = self.holds((tag, A, B), [first, second], kinds)
                    self.same(span, (min(values), max(values)))
        for condition in TRUTHS:
            for first in ((-2, 0), (1, 1)):
                for second in ((0, 2), (-3, -3)):
                    span, values, _ = self.holds(("cond", A, B, C), [condition, first, second],
                                                 ("bool", "int", "int"))
                    self.same(span, (min(values), max(values)))

    def test_search_at_the_ends_of_the_range(self):
        ends = [(LIMIT - 2, LIMIT), (LIMIT, LIMIT), (-LIMIT, 1 - LIMIT), (-1, 1), (0, 2), (-2, -1)]
        for tag in ("add", "sub", "mul", "div", "mod", "min", "max", "lt", "le", "eq", "ne"):
            for first in ends:
                for second in ends:
                    spans = [first, second]
                    span, _, faults = self.holds((tag, A, B), spans, ("int", "int"))
                    self.same(span, reference_spans.span((tag, A, B), spans))
                    self.assertTrue(-LIMIT <= span[0] <= span[1] <= LIMIT)
                    self.same(is_safe((tag, A, B), spans), not faults)


class SafeTest(SpanCase):

    def safe(self, tree, spans, expected):
        self.same(self.pure(is_safe, tree, list(spans)), expected, (tree, spans))

    def test_example(self):
        self.same(is_safe(("div", ("num", 1), ("cell", 0)), [(1, 3)]), True)

    def test_leaves_and_unary(self):
        for tree in (("num", 0), ("num", LIMIT), TRUE, FALSE, A, ("neg", A), ("not", B)):
            self.safe(tree, [(-LIMIT, LIMIT), UNKNOWN], True)
        self.safe(("neg", BAD), [], False)
        self.safe(("not", BAD_TRUTH), [], False)

    def test_at(self):
        rest = [NEVER] * 4
        for index, expected in (((0, 2), True), ((1, 1), True), ((0, 0), True), ((2, 2), True),
                                ((-1, 2), False), ((0, 3), False), ((3, 3), False),
                                ((-1, -1), False), ((-LIMIT, LIMIT), False)):
            self.safe(("at", 1, 3, A), [index, *rest], expected)
        self.safe(("at", 1, 1, ("num", 0)), [NEVER, *rest], True)
        self.safe(("at", 1, 1, ("num", 1)), [NEVER, *rest], False)
        # The index has the span of a quotient that is no good: (0, 0).
        self.safe(("at", 1, 3, BAD), [NEVER, *rest], False)
        self.safe(("at", 1, 3, ("at", 1, 1, ("num", 1))), [NEVER, *rest], False)

    def test_the_range(self):
        for tag, first, second, expected in (
                ("add", (0, LIMIT), (0, 0), True), ("add", (0, LIMIT), (0, 1), False),
                ("add", (-LIMIT, 0), (0, 0), True), ("add", (-LIMIT, 0), (-1, 0), False),
                ("add", (LIMIT, LIMIT), (-5, 0), True), ("sub", (0, LIMIT), (0, 5), True),
                ("sub", (0, LIMIT), (-1, 5), False), ("sub", (-LIMIT, 0), (-5, 0), True),
                ("sub", (-LIMIT, 0), (-5, 1), False), ("mul", (0, 333333333), (-3, 3), True),
                ("mul", (0, 333333334), (0, 3), False), ("mul", (0, 333333334), (-3, 0), False),
                ("mul", (-LIMIT, LIMIT), (-1, 1), True), ("mul", (-LIMIT, LIMIT), (0, 2), False)):
            self.safe((tag, A, B), [first, second], expected)

    def test_divisors(self):
        for tag in ("div", "mod"):
            for span, expected in (((1, 3), True), ((-3, -1), True), ((1, 1), True), ((0, 0), False),
                                   ((0, 3), False), ((-3, 0), False), ((-3, 3), False)):
                self.safe((tag, A, B), [(-LIMIT, LIMIT), span], expected)

    def test_both_operands(self):
        for tag in ("add", "sub", "mul", "min", "max", "eq", "ne", "lt", "le"):
            self.safe((tag, A, B), [(0, 1), (0, 1)], True)
            self.safe((tag, BAD, B), [(0, 1), (0, 1)], False)
            self.safe((tag, A, BAD), [(0, 1), (0, 1)], False)
        for tag in ("div", "mod"):
            self.safe((tag, BAD, ("num", 1)), [], False)
            # The span of the second operand is (2, 2), although it may fault.
            self.safe((tag, A, ("cond", BAD_TRUTH, ("num", 2), ("num", 2))), [(1, 1)], False)

    def test_and_and_or(self):
        for first in TRUTHS:
            for tag, deciding in (("and", NEVER), ("or", ALWAYS)):
                self.safe((tag, A, B), [first, UNKNOWN], True)
                self.safe((tag, A, BAD_TRUTH), [first], first == deciding)
                self.safe((tag, BAD_TRUTH, A), [first], False)
        self.safe(("and", ("and", FALSE, BAD_TRUTH), BAD_TRUTH), [], True)
        # The first operand has the span (0, 0), but it may fault.
        self.safe(("and", ("lt", BAD, ("num", 0)), TRUE), [], False)

    def test_cond(self):
        for first in TRUTHS:
            self.safe(("cond", A, B, C), [first, (0, 5), (0, 5)], True)
            self.safe(("cond", A, BAD, C), [first, (0, 5), (0, 5)], first == NEVER)
            self.safe(("cond", A, B, BAD), [first, (0, 5), (0, 5)], first == ALWAYS)
            self.safe(("cond", A, BAD, BAD), [first], False)
        self.safe(("cond", BAD_TRUTH, A, B), [(0, 5), (0, 5)], False)

    def test_forty_levels(self):
        tree = A
        for level in range(39):
            tree = ("add", ("num", 1), tree) if level % 2 else ("cond", B, tree, tree)
            if level > 12:
                tree = ("add", ("num", 1), tree[2]) if tree[0] == "cond" else tree
        self.assertTrue(few_calls(span_of, tree, [(0, 3), UNKNOWN])[1] > 3)
        self.same(few_calls(is_safe, tree, [(0, 3), UNKNOWN]), True)

    def test_random(self):
        numbers = Numbers(61)
        cells = Cells((0, 2, 3, 4), (1, 5), ((2, 3), (3, 1)))
        kinds = ["bool" if cell in cells.bools else "int" for cell in range(6)]
        spots = [0, 0]
        for _ in range(3000):
            tree = tree_of(numbers, numbers.one_of(("int", "bool")), 1 + numbers.below(5), cells)
            spans = [numbers.one_of(TRUTHS) if kind == "bool" else numbers.one_of(SMALL)
                     for kind in kinds]
            self.same(self.pure(span_of, tree, spans), reference_spans.span(tree, spans), tree)
            self.same(self.pure(is_safe, tree, spans), reference_spans.safe(tree, spans), tree)
            spots[is_safe(tree, spans)] += 1
            state = [values_in(span, kind)[numbers.below(len(values_in(span, kind)))]
                     for span, kind in zip(spans, kinds)]
            try:
                value = evaluate_flat(tree, state)
            except Fault:
                self.same(is_safe(tree, spans), False)
            else:
                low, high = span_of(tree, spans)
                self.assertTrue(low <= value <= high, (tree, spans, state))
        self.assertTrue(min(spots) > 500, spots)


if __name__ == "__main__":
    unittest.main()
