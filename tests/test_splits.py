"""Points 8.2 and 8.3: splits."""

import unittest

from odds.errors import NoValue
from odds.splits import domain, gather, narrow, select, value_under, where
from odds.store import Store
from tests.diagrams import (assert_split, assignments, diagram_of, random_diagram, random_table,
                            split_of, truth, values_of)
from tests.support import Case, Numbers

KINDS = (
    (-7, -1, 0, 1, 2, 999999999),
    (False, True),
    ((), ),
    ((0, False), (0, True), (1, False), (-1, True)),
    ((3,), (-3,), (0,)),
    ((False, False), (True, False), (False, True)),
)
LEVELS = 3
ROWS = assignments(LEVELS)


def random_values(numbers, kind):
    """A value or None for each assignment."""
    return [numbers.one_of((*kind, None)) for _ in ROWS]


class SplitsTest(Case):

    def is_split(self, s, split, values):
        """The split has these values under the assignments, and the form that it must have."""
        assert_split(self, split)
        self.same(values_of(s, split, LEVELS), values)

    def test_gather_example(self):
        s = Store()
        self.same(gather(s, [(3, s.coin(0)), (1, s.negate(s.coin(0))), (2, 0)]),
                  ((1, s.negate(s.coin(0))), (3, s.coin(0))))

    def test_gather(self):
        s = Store()
        coins = [s.coin(level) for level in range(3)]
        self.same(gather(s, []), ())
        self.same(gather(s, [(5, 0), (4, 0), (5, 0)]), ())
        self.same(gather(s, [((), 0)]), ())
        self.same(gather(s, [((), coins[1])]), (((), coins[1]),))
        # Equal values may occur several times, overlap, and have references that are 0.
        given = [(5, coins[0]), (-5, 0), (5, coins[1]), (5, coins[0]), (5, 0)]
        found = self.pure(lambda given: gather(s, given), given)
        self.same(found, ((5, s.either(coins[0], coins[1])),))
        low = s.negate(coins[0])
        self.same(gather(s, [(True, coins[0]), (False, s.both(low, coins[1])),
                             (False, s.without(low, coins[1]))]), ((False, low), (True, coins[0])))
        self.same(gather(s, [((2, True), coins[0]), ((2, False), s.both(low, coins[2])),
                             ((-2, True), s.without(low, coins[2]))]),
                  (((-2, True), s.without(low, coins[2])), ((2, False), s.both(low, coins[2])),
                   ((2, True), coins[0])))
        self.same(gather(s, [(9, coins[2]), (9, s.negate(coins[2]))]), ((9, 1),))

    def test_gather_random(self):
        numbers = Numbers(71)
        for _ in range(60):
            for kind in KINDS:
                s = Store()
                values = random_values(numbers, kind)
                pairs = list(split_of(s, values, LEVELS))
                pairs.extend([(numbers.one_of(kind), 0)])
                for value, a in list(pairs):
                    pairs.append((value, s.both(a, random_diagram(numbers, s, LEVELS))))
                pairs = sorted(pairs, key=lambda _: numbers.below(100))
                self.is_split(s, gather(s, pairs), values)

    def test_domain(self):
        numbers = Numbers(72)
        s = Store()
        self.same(domain(s, ()), 0)
        self.same(domain(s, ((4, 1),)), 1)
        for _ in range(60):
            for kind in KINDS:
                values = random_values(numbers, kind)
                a = domain(s, split_of(s, values, LEVELS))
                self.same(truth(s, a, LEVELS), tuple([value is not None for value in values]))

    def test_narrow(self):
        numbers = Numbers(73)
        s = Store()
        for _ in range(60):
            for kind in KINDS:
                values, table = random_values(numbers, kind), random_table(numbers, LEVELS)
                split = split_of(s, values, LEVELS)
                found = narrow(s, split, diagram_of(s, table))
                self.is_split(s, found, [value if bit else None
                                         for value, bit in zip(values, table)])
                self.same(narrow(s, split, 0), ())
                self.same(narrow(s, split, 1), split)
                self.same(narrow(s, (), diagram_of(s, table)), ())

    def test_select(self):
        numbers = Numbers(74)
        s = Store()
        for _ in range(60):
            for kind in KINDS:
                first, second = [random_values(numbers, kind) for _ in range(2)]
                table = random_table(numbers, LEVELS)
                one, other = [split_of(s, values, LEVELS) for values in (first, second)]
                found = select(s, diagram_of(s, table), one, other)
                self.is_split(s, found, [x if bit else y
                                         for bit, x, y in zip(table, first, second)])
                self.same(select(s, 1, one, other), one)
                self.same(select(s, 0, one, other), other)
                self.same(select(s, diagram_of(s, table), one, one), one)

    def test_select_with_other_domains(self):
        s = Store()
        a, b = s.coin(0), s.coin(1)
        self.same(select(s, a, ((1, b),), ()), ((1, s.both(a, b)),))
        self.same(select(s, a, (), ((1, b),)), ((1, s.without(b, a)),))
        self.same(select(s, a, ((1, b),), ((1, 1),)), ((1, s.either(b, s.negate(a))),))
        self.same(select(s, a, ((3, b),), ((1, s.negate(b)),)),
                  ((1, s.without(s.negate(b), a)), (3, s.both(a, b))))
        self.same(select(s, a, (), ()), ())
        self.same(select(s, a, ((5, s.negate(a)),), ((6, a),)), ())

    def test_where(self):
        s = Store()
        a, b = s.coin(0), s.without(s.coin(1), s.coin(0))
        self.same([where(((-2, a), (7, b)), value) for value in (-2, 7, 0, 8, -9)],
                  [a, b, 0, 0, 0])
        self.same([where(((True, a),), value) for value in (True, False)], [a, 0])
        self.same([where(((False, b), (True, a)), value) for value in (True, False)], [a, b])
        self.same(where((((), 1),), ()), 1)
        self.same(where((((1, False), a), ((1, True), b)), (1, True)), b)
        self.same(where((), 4), 0)

    def test_value_under(self):
        numbers = Numbers(75)
        s = Store()
        for _ in range(60):
            for kind in KINDS:
                values = random_values(numbers, kind)
                split = split_of(s, values, LEVELS)
                for bits, value in zip(ROWS, values):
                    if value is None:
                        self.refuses(NoValue, lambda bits: value_under(s, split, bits), bits)
                    else:
                        self.same(value_under(s, split, bits), value)
        self.refuses(NoValue, lambda bits: value_under(s, (), bits), [])
        self.same(value_under(s, ((False, 1),), []), False)
        self.same(value_under(s, (((), 1),), []), ())


if __name__ == "__main__":
    unittest.main()
