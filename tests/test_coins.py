"""Point 8.1: coins for the alternatives of draws."""

import unittest
from fractions import Fraction

from odds.coins import Coins
from odds.store import Store
from tests.diagrams import assignments, mass_of, walk
from tests.support import Case, Numbers, few_calls, soon

WEIGHTS = (
    (1,), (7,), (1, 1), (0, 1), (1, 0), (2, 1, 3), (0, 2, 1), (2, 0, 1), (2, 1, 0), (0, 0, 5),
    (5, 0, 0), (0, 5, 0), (0, 0, 1, 0, 0), (1, 0, 2, 0, 0, 3), (0, 1, 0, 1, 0), (4, 6, 2, 8),
    (1, 1, 1, 1, 1, 1, 1), (10 ** 30, 1, 10 ** 20),
)


class CoinsTest(Case):

    def test_example(self):
        s = Store()
        c = Coins(s)
        guards = c.alternatives((1, 0, 2))
        self.same(c.chances(), [(1, 3), (0, 1)])
        coins = [s.coin(0), s.coin(1)]
        self.same(guards, [coins[0], s.without(coins[1], coins[0]),
                           s.both(s.negate(coins[0]), s.negate(coins[1]))])

    def test_fresh(self):
        s = Store()
        s.coin(12)
        c = Coins(s)
        self.same(c.chances(), [])
        for level, chance in enumerate(((1, 3), (0, 1), (1, 1), (1, 3))):
            self.same(c.fresh(chance), s.coin(level))
        self.same(c.chances(), [(1, 3), (0, 1), (1, 1), (1, 3)])

    def test_chances_are_a_copy(self):
        c = Coins(Store())
        c.fresh((1, 2))
        found = c.chances()
        found.append((1, 9))
        found[0] = (1, 5)
        self.same(c.chances(), [(1, 2)])
        c.fresh((1, 4))
        self.same(c.chances(), [(1, 2), (1, 4)])
        self.same(found, [(1, 5), (1, 9)])
        self.same(c.alternatives((1, 1))[0], c._store.coin(2))

    def test_two_of_them(self):
        s = Store()
        first, second = Coins(s), Coins(s)
        first.fresh((1, 2))
        self.same(second.fresh((1, 3)), s.coin(0))
        self.same(first.fresh((1, 4)), s.coin(1))
        self.same((first.chances(), second.chances()), ([(1, 2), (1, 4)], [(1, 3)]))

    def test_one_weight(self):
        c = Coins(Store())
        self.same(c.alternatives((3,)), [1])
        self.same(c.chances(), [])

    def test_chances_of_alternatives(self):
        for weights, chances in (
                ((1, 1), [(1, 2)]), ((0, 1), [(0, 1)]), ((1, 0), [(1, 1)]),
                ((2, 1, 3), [(1, 3), (1, 4)]), ((0, 0, 5), [(0, 1), (0, 1)]),
                ((5, 0, 0), [(1, 1), (0, 1)]), ((0, 5, 0), [(0, 1), (1, 1)]),
                ((0, 2, 0, 0), [(0, 1), (1, 1), (0, 1)]),
                ((4, 6, 2, 8), [(1, 5), (3, 8), (1, 5)])):
            c = Coins(Store())
            self.pure(lambda weights: Coins(Store()).alternatives(weights), weights)
            c.alternatives(weights)
            self.same(c.chances(), chances)

    def exactly_one(self, s, guards, weights, chances, first):
        """Exactly one alternative is True, each with the mass of its weight."""
        masses = [Fraction(0)] * len(weights)
        self.same(len(guards), len(weights))
        for bits in assignments(len(chances)):
            chosen = [k for k, guard in enumerate(guards) if walk(s, guard, bits)]
            self.same(len(chosen), 1)
            coins = bits[first:first + len(weights) - 1] + [True]
            self.same(chosen[0], coins.index(True))
            masses[chosen[0]] += mass_of(bits, chances)
        self.assertEqual(masses, [Fraction(weight, sum(weights)) for weight in weights])

    def test_alternatives(self):
        for weights in WEIGHTS:
            s = Store()
            c = Coins(s)
            guards = c.alternatives(weights)
            self.same(len(c.chances()), len(weights) - 1)
            self.exactly_one(s, guards, weights, c.chances(), 0)

    def test_several_draws(self):
        s = Store()
        c = Coins(s)
        made = []
        for weights in ((1, 2, 0), (3,), (0, 1), (2, 1, 1)):
            made.append((c.alternatives(weights), weights, len(c.chances()) - len(weights) + 1))
            if len(weights) == 1:
                c.fresh((1, 7))
        self.same(c.chances(), [(1, 3), (1, 1), (1, 7), (0, 1), (1, 2), (1, 2)])
        for guards, weights, first in made:
            self.exactly_one(s, guards, weights, c.chances(), first)

    def test_random(self):
        numbers = Numbers(70)
        for _ in range(200):
            weights = [numbers.below(4) for _ in range(1 + numbers.below(6))]
            weights[numbers.below(len(weights))] += 1
            s = Store()
            c = Coins(s)
            self.exactly_one(s, c.alternatives(tuple(weights)), weights, c.chances(), 0)

    def test_many_alternatives(self):
        s = Store()
        c = Coins(s)
        guards = soon(few_calls, c.alternatives, (1,) * 64)
        self.same(c.chances(), [(1, 64 - k) for k in range(63)])
        for k in (0, 1, 40, 63):
            bits = [False] * 63 + [False]
            bits[k] = True
            self.same([at for at, guard in enumerate(guards) if s.value(guard, bits)], [k])
        self.same(s.support(guards[63]), list(range(63)))
        self.same(s.either_of(guards), 1)


if __name__ == "__main__":
    unittest.main()
