"""Points 7.8 and 7.9: coins that move to other levels."""

import unittest

from odds.orders import reorder, sift, swap_gain
from odds.store import Store
from tests.diagrams import (assignments, conjunction, diagram_of, parity, parts_below,
                            random_diagram, random_table, truth, walk)
from tests.support import Case, Numbers, few_calls, soon

MANY = 1200


def shuffled(numbers, things):
    things, found = list(things), []
    while things:
        found.append(things.pop(numbers.below(len(things))))
    return found


def exchanged(table, level, levels):
    """The truth table of a function whose coins of a level and the next one exchange."""
    def moved(bits):
        bits[level], bits[level + 1] = bits[level + 1], bits[level]
        return bits

    rows = assignments(levels)
    return tuple([table[rows.index(moved(bits))] for bits in assignments(levels)])


def size_of(table):
    """The number of nodes of the diagram of a truth table."""
    s = Store()
    return len(parts_below(s, diagram_of(s, table)))


class ReorderTest(Case):

    def test_examples(self):
        s = Store()
        self.same(reorder(s, s.coin(0), [3]), s.coin(3))
        self.same(reorder(s, 0, []), 0)
        self.same(reorder(s, 1, []), 1)
        self.same(reorder(s, 1, [4, 0]), 1)
        a = s.without(s.coin(0), s.coin(1))
        self.same(reorder(s, a, [1, 0]), s.without(s.coin(1), s.coin(0)))
        self.same(reorder(s, a, [0, 1]), a)

    def test_values(self):
        numbers = Numbers(66)
        for _ in range(300):
            s = Store()
            a = random_diagram(numbers, s, 4)
            places = shuffled(numbers, range(6))[:4]
            b = self.pure(lambda places: reorder(s, a, places), places)
            for bits in assignments(6):
                self.same(walk(s, b, bits), walk(s, a, [bits[place] for place in places]))
            self.assertTrue(set(s.support(b)) == {places[k] for k in s.support(a)})

    def test_far_places(self):
        s = Store()
        a = s.choose(s.coin(0), s.coin(1), s.coin(2))
        b = reorder(s, a, [10 ** 9, 5, 10 ** 8, 0, 1])
        self.same(b, s.choose(s.coin(10 ** 9), s.coin(5), s.coin(10 ** 8)))

    def test_levels_that_do_not_occur(self):
        s = Store()
        a = s.both(s.coin(1), s.coin(4))
        self.same(reorder(s, a, [9, 8, 0, 1, 2]), s.both(s.coin(8), s.coin(2)))

    def test_many_levels(self):
        s = Store()
        odd, ones = parity(s, MANY), conjunction(s, MANY)
        far = soon(few_calls, reorder, s, odd, list(range(7, MANY + 7)))
        self.same(s.support(far), list(range(7, MANY + 7)))
        self.same(few_calls(reorder, s, far, [0] * 7 + list(range(MANY))), odd)
        backwards = list(reversed(range(MANY)))
        self.same(soon(few_calls, reorder, s, ones, backwards), ones)
        halves = list(range(0, MANY, 2)) + list(range(1, MANY, 2))
        self.same(soon(few_calls, reorder, s, odd, halves), odd)


class SwapGainTest(Case):

    def gain(self, s, a, level):
        found = swap_gain(s, a, level)
        self.assertIsInstance(found, int)
        return found

    def test_examples(self):
        s = Store()
        coins = [s.coin(level) for level in range(4)]
        # Coin 1 between two coins that are compared with each other.
        a = s.both(s.choose(coins[0], coins[2], s.negate(coins[2])), coins[1])
        self.same(self.gain(s, a, 0), 1)
        self.same(self.gain(s, a, 1), 1)
        b = reorder(s, a, [1, 0, 2])
        self.same(self.gain(s, b, 0), -1)
        for a in (0, 1, *coins, s.either(coins[1], coins[2]), s.choose(coins[0], coins[1], 1)):
            for level in (0, 1, 2, 3, 4, 90):
                self.same(self.gain(s, a, level), 0)

    def test_against_exchanging(self):
        numbers = Numbers(67)
        seen = {}
        for _ in range(500):
            s = Store()
            table = random_table(numbers, 4)
            a = diagram_of(s, table)
            # Two levels on which the function does not depend stand before and behind.
            b = reorder(s, a, [1, 2, 3, 4])
            for level in range(3):
                expected = size_of(table) - size_of(exchanged(table, level, 4))
                self.same(self.gain(s, a, level), expected)
                self.same(self.gain(s, b, level + 1), expected)
                places = [0, 1, 2, 3, 4]
                places[level], places[level + 1] = level + 1, level
                after = reorder(s, a, places)
                self.same(len(s.nodes_below(a)) - len(s.nodes_below(after)), expected)
                seen[expected] = seen.get(expected, 0) + 1
            for level in (0, 4, 5):
                self.same(self.gain(s, b, level), 0)
        self.assertTrue({-1, 0, 1} <= set(seen), seen)

    def test_sparse_functions(self):
        """Functions that do not depend on some of the coins on the way."""
        numbers = Numbers(68)
        for _ in range(500):
            s = Store()
            parts = [s.coin(numbers.below(5)) for _ in range(3)]
            a = s.choose(parts[0], s.negate(parts[1]), s.node(0, parts[2], 1)
                         if s.level(parts[2]) > 0 else parts[1])
            table = truth(s, a, 5)
            for level in range(4):
                expected = size_of(table) - size_of(exchanged(table, level, 5))
                self.same(self.gain(s, a, level), expected)

    def test_many_levels(self):
        s = Store()
        for a in (parity(s, MANY), conjunction(s, MANY)):
            for level in (0, MANY // 2, MANY - 2, MANY - 1):
                self.same(few_calls(swap_gain, s, a, level), 0)


class SiftTest(Case):

    def sifted(self, table, levels):
        """The truth table and the places that are found step by step."""
        places = list(range(levels))
        for level in range(levels - 1):
            other = exchanged(table, level, levels)
            if size_of(other) < size_of(table):
                table = other
                places = [{level: level + 1, level + 1: level}.get(place, place)
                          for place in places]
        return table, places

    def test_examples(self):
        s = Store()
        self.same(sift(s, 0, 0), (0, []))
        self.same(sift(s, 1, 1), (1, [0]))
        self.same(sift(s, 1, 4), (1, [0, 1, 2, 3]))
        self.same(sift(s, s.coin(2), 3), (s.coin(2), [0, 1, 2]))
        a = s.both(s.choose(s.coin(0), s.coin(2), s.negate(s.coin(2))), s.coin(1))
        b = s.both(s.choose(s.coin(1), s.coin(2), s.negate(s.coin(2))), s.coin(0))
        self.same(sift(s, a, 3), (b, [1, 0, 2]))
        self.same(sift(s, a, 5), (b, [1, 0, 2, 3, 4]))

    def test_against_single_steps(self):
        numbers = Numbers(69)
        moved = 0
        for _ in range(250):
            s = Store()
            table = random_table(numbers, 4)
            a = diagram_of(s, table)
            expected, places = self.sifted(table, 4)
            b, found = sift(s, a, 4)
            self.same(found, places)
            self.same(b, diagram_of(s, expected))
            self.same(b, reorder(s, a, places))
            moved += places != [0, 1, 2, 3]
        self.assertTrue(moved > 50, moved)

    def test_a_coin_moves_far(self):
        s = Store()
        a = s.choose(s.coin(0), s.coin(5), s.negate(s.coin(5)))
        for level in range(1, 5):
            a = s.both(a, s.coin(level))
        b, places = sift(s, a, 6)
        self.same(places, [4, 0, 1, 2, 3, 5])
        self.same(b, reorder(s, a, places))
        self.same(len(s.nodes_below(b)), 7)

    def test_many_levels(self):
        s = Store()
        for a in (parity(s, MANY), conjunction(s, MANY)):
            self.same(soon(few_calls, sift, s, a, MANY, seconds=60), (a, list(range(MANY))))
        a = conjunction(s, MANY)
        last = s.coin(MANY)
        # The first coin is compared with the last one, so the others had better stand before it.
        a = s.both(s.restrict(a, 0, True), s.choose(s.coin(0), last, s.negate(last)))
        b, places = soon(few_calls, sift, s, a, MANY + 1, seconds=60)
        self.same(places, [MANY - 1, *range(MANY - 1), MANY])
        self.same(len(s.nodes_below(b)), MANY + 2)
        self.same(few_calls(reorder, s, a, places), b)


if __name__ == "__main__":
    unittest.main()
