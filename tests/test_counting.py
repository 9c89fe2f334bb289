"""Points 9.1 to 9.5: weighted counting."""

import unittest
from fractions import Fraction

from odds.counting import count, count_given, counts, likeliest, slope
from odds.errors import NoEvidence
from odds.store import Store
from tests.diagrams import (assignments, conjunction, diagram_of, mass_of, parity, random_diagram,
                            random_table)
from tests.reference import pair_of
from tests.support import Case, Numbers, few_calls, soon

MANY = 1200
NONE, ONE = (0, 1), (1, 1)
CHANCES = (NONE, ONE, (1, 2), (1, 3), (2, 3), (1, 7), (5, 6), (99, 100), (1, 10 ** 40))


def random_chances(numbers, many):
    return [numbers.one_of(CHANCES) for _ in range(many)]


class CountCase(Case):

    def setUp(self):
        numbers = Numbers(81)
        self.cases = []
        for _ in range(300):
            s = Store()
            levels = 1 + numbers.below(4)
            table = random_table(numbers, levels)
            chances = random_chances(numbers, levels + numbers.below(2))
            self.cases.append((s, diagram_of(s, table), table, levels, chances))

    def mass(self, table, levels, chances):
        """The sum of the masses of the assignments for which a table is True."""
        return sum([mass_of(bits, chances[:levels])
                    for bits, value in zip(assignments(levels), table) if value], Fraction(0))


class CountTest(CountCase):

    def test_examples(self):
        s = Store()
        self.same(count(s, s.either(s.coin(0), s.coin(1)), [(1, 3), (1, 2)]), (2, 3))
        self.same(count(s, 0, []), NONE)
        self.same(count(s, 1, []), ONE)
        self.same(count(s, 0, [(1, 3)]), NONE)
        self.same(count(s, 1, [(1, 3)]), ONE)
        self.same(count(s, s.coin(1), [(1, 3), (2, 5)]), (2, 5))
        self.same(count(s, s.negate(s.coin(1)), [(1, 3), (2, 5)]), (3, 5))
        self.same(count(s, s.coin(0), [NONE]), NONE)
        self.same(count(s, s.coin(0), [ONE]), ONE)
        self.same(count(s, s.negate(s.coin(0)), [ONE]), NONE)

    def test_against_all_assignments(self):
        for s, a, table, levels, chances in self.cases:
            found = self.pure(lambda chances: count(s, a, chances), chances)
            self.same(found, pair_of(self.mass(table, levels, chances)))

    def test_counts(self):
        s = Store()
        self.same(counts(s, [], []), [])
        self.same(counts(s, [], [(1, 2)]), [])
        numbers = Numbers(82)
        for _ in range(80):
            s = Store()
            references = [0, 1, *[random_diagram(numbers, s, 3) for _ in range(4)]]
            references = [numbers.one_of(references) for _ in range(numbers.below(9))]
            chances = random_chances(numbers, 3)
            found = self.pure(lambda *given: counts(s, *given), references, chances)
            self.same(found, [count(s, a, chances) for a in references])
        a = s.coin(0)
        self.same(counts(s, [a, 1, a, s.negate(a), a], [(1, 3)]),
                  [(1, 3), ONE, (1, 3), (2, 3), (1, 3)])

    def test_many_levels(self):
        s = Store()
        chances = [(1, k + 2) for k in range(MANY)]
        self.same(soon(few_calls, count, s, s.negate(conjunction(s, MANY)), [ONE] * MANY), NONE)
        self.same(soon(few_calls, count, s, parity(s, MANY), [(1, 2)] * MANY), (1, 2))
        # The first coin is fair, so the others do not matter.
        self.same(soon(few_calls, count, s, parity(s, MANY), chances), (1, 2))
        odd = soon(few_calls, count, s, parity(s, MANY), [(1, 3)] * MANY)
        self.same(odd, pair_of((1 - Fraction(1, 3) ** MANY) / 2))
        none = s.restrict(conjunction(s, MANY), 0, True)
        self.same(soon(few_calls, count, s, none, [(2, 3)] * MANY),
                  pair_of(Fraction(2, 3) ** (MANY - 1)))

    def test_each_node_once(self):
        """A hundred nodes over a thousand levels, and many diagrams that share their nodes."""
        s = Store()
        odd, even = 0, 1
        for level in reversed(range(0, 1000, 20)):
            odd, even = s.node(level, odd, even), s.node(level, even, odd)
        self.same(len(s.nodes_below(odd)), 99)
        self.same(soon(count, s, odd, [(1, 4)] * 1000, seconds=5),
                  pair_of((1 - Fraction(1, 2) ** 50) / 2))
        wide = parity(s, MANY)
        found = soon(counts, s, s.nodes_below(wide) * 3, [(1, 2)] * MANY, seconds=5)
        self.same(set(found), {(1, 2)})


class CountGivenTest(CountCase):

    def test_examples(self):
        s = Store()
        a, b = s.coin(0), s.coin(1)
        chances = [(1, 3), (1, 2)]
        self.same(count_given(s, a, s.either(a, b), chances), (1, 2))
        self.same(count_given(s, s.either(a, b), a, chances), ONE)
        self.same(count_given(s, a, 1, chances), (1, 3))
        self.same(count_given(s, 1, a, chances), ONE)
        self.same(count_given(s, 0, a, chances), NONE)
        self.same(count_given(s, a, s.negate(a), chances), NONE)

    def test_no_evidence(self):
        s = Store()
        a, b = s.coin(0), s.coin(1)
        for condition, chances in (
                (0, [(1, 2), (1, 2)]), (a, [NONE, (1, 2)]), (s.negate(a), [ONE, (1, 2)]),
                (s.both(a, b), [(1, 2), NONE]), (s.both(a, b), [NONE, NONE]),
                (s.without(b, a), [ONE, ONE])):
            for asked in (0, 1, a, b, condition):
                self.refuses(NoEvidence, lambda chances: count_given(s, asked, condition, chances),
                             chances)

    def test_against_all_assignments(self):
        numbers = Numbers(83)
        refused = 0
        for s, a, table, levels, chances in self.cases:
            other = random_table(numbers, levels)
            b = diagram_of(s, other)
            whole = self.mass(other, levels, chances)
            if whole == 0:
                refused += 1
                self.refuses(NoEvidence, lambda chances: count_given(s, a, b, chances), chances)
            else:
                part = self.mass([x and y for x, y in zip(table, other)], levels, chances)
                self.same(self.pure(lambda chances: count_given(s, a, b, chances), chances),
                          pair_of(part / whole))
        self.assertTrue(refused > 10)


class SlopeTest(CountCase):

    def test_examples(self):
        s = Store()
        a = s.choose(s.coin(0), s.coin(2), s.negate(s.coin(3)))
        chances = [(1, 3), (1, 2), (1, 4), (1, 5), NONE]
        self.same([slope(s, a, chances, level) for level in range(5)],
                  [pair_of(Fraction(1, 4) - Fraction(4, 5)), NONE, (1, 3), (-2, 3), NONE])
        for level in range(2):
            self.same(slope(s, 0, [ONE, NONE], level), NONE)
            self.same(slope(s, 1, [ONE, NONE], level), NONE)
        self.same(slope(s, s.coin(0), [NONE], 0), ONE)
        self.same(slope(s, s.negate(s.coin(0)), [ONE], 0), (-1, 1))

    def test_against_all_assignments(self):
        for s, a, table, levels, chances in self.cases:
            for level in range(len(chances)):
                sure = [chances[:level] + [chance] + chances[level + 1:] for chance in (ONE, NONE)]
                high, low = [self.mass(table, levels, each) for each in sure]
                found = self.pure(lambda chances: slope(s, a, chances, level), chances)
                self.same(found, pair_of(high - low))

    def test_many_levels(self):
        s = Store()
        a = conjunction(s, MANY)
        found = soon(few_calls, slope, s, a, [(1, 2)] * MANY, MANY // 2)
        self.same(found, (1, 2 ** (MANY - 1)))


class LikeliestTest(CountCase):

    def test_examples(self):
        s = Store()
        a = s.either(s.coin(0), s.coin(1))
        self.same(likeliest(s, a, [(1, 3), (1, 2)]), ([False, True], (1, 3)))
        self.same(likeliest(s, s.coin(0), [NONE, ONE]), ([True, False], NONE))
        self.same(likeliest(s, 1, []), ([], ONE))
        self.same(likeliest(s, 1, [(2, 3), (1, 3)]), ([True, False], (4, 9)))

    def test_no_evidence(self):
        for chances in ([], [(1, 2)], [NONE, ONE]):
            self.refuses(NoEvidence, lambda chances: likeliest(Store(), 0, chances), chances)

    def test_equal_masses(self):
        s = Store()
        half = (1, 2)
        coins = [s.coin(level) for level in range(3)]
        self.same(likeliest(s, 1, [half] * 3), ([False] * 3, (1, 8)))
        self.same(likeliest(s, s.either_of(coins), [half] * 3), ([False, False, True], (1, 8)))
        self.same(likeliest(s, coins[0], [half] * 3), ([True, False, False], (1, 8)))
        self.same(likeliest(s, s.either(coins[0], coins[1]), [(1, 3), (1, 3), half]),
                  ([False, True, False], (1, 9)))
        # 1/3 times 2/3 either way.
        self.same(likeliest(s, s.choose(coins[0], coins[1], s.negate(coins[1])),
                            [(1, 3), (2, 3), half]), ([False, False, False], (1, 9)))
        self.same(likeliest(s, s.choose(coins[0], s.negate(coins[1]), coins[1]),
                            [(2, 3), (2, 3), ONE]), ([False, True, True], (2, 9)))

    def test_masses_of_zero(self):
        s = Store()
        a, b, c = [s.coin(level) for level in range(3)]
        self.same(likeliest(s, s.both(a, b), [NONE, ONE, ONE]), ([True, True, False], NONE))
        self.same(likeliest(s, s.both(a, c), [ONE, ONE, NONE]), ([True, False, True], NONE))
        self.same(likeliest(s, s.either(a, b), [NONE, NONE, ONE]), ([False, True, False], NONE))
        self.same(likeliest(s, s.negate(b), [(1, 3), ONE, (2, 3)]), ([False] * 3, NONE))
        # Zeros beside a mass that is not zero.
        self.same(likeliest(s, s.either(a, b), [NONE, (1, 9), ONE]), ([False, True, True], (1, 9)))
        self.same(likeliest(s, s.either(s.both(a, b), c), [ONE, ONE, NONE]),
                  ([True, True, False], ONE))

    def test_against_all_assignments(self):
        zeros = 0
        for s, a, table, levels, chances in self.cases:
            best = None
            for bits in assignments(len(chances)):
                mass = mass_of(bits, chances)
                if table[assignments(levels).index(bits[:levels])]:
                    if best is None or mass > best[1]:
                        best = (bits, mass)
            if a == 0:
                self.refuses(NoEvidence, lambda chances: likeliest(s, a, chances), chances)
            else:
                zeros += best[1] == 0
                found = self.pure(lambda chances: likeliest(s, a, chances), chances)
                self.same(found, (best[0], pair_of(best[1])))
        self.assertTrue(zeros > 10)

    def test_many_levels(self):
        s = Store()
        chances = [(1, 3)] * MANY
        self.same(soon(few_calls, likeliest, s, conjunction(s, MANY), chances),
                  ([True] * MANY, (1, 3 ** MANY)))
        self.same(soon(few_calls, likeliest, s, parity(s, MANY), chances),
                  ([False] * (MANY - 1) + [True], (2 ** (MANY - 1), 3 ** MANY)))
        self.same(soon(few_calls, likeliest, s, s.coin(MANY - 1), [(2, 3)] * MANY),
                  ([True] * MANY, (2 ** MANY, 3 ** MANY)))


if __name__ == "__main__":
    unittest.main()
