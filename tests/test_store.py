"""Points 7.1 to 7.5: decision diagrams."""

import unittest
from unittest import mock

from odds import store as store_module
from odds.errors import NotANode
from odds.store import Store
from tests.diagrams import (assignments, conjunction, diagram_of, parity, parts_below,
                            random_diagram, random_table, table_number, truth)
from tests.support import Case, Numbers, few_calls, soon

MANY = 1200
FAR = 10 ** 9


class NodesTest(Case):

    def test_examples(self):
        s = Store()
        self.same(s.both(s.coin(0), s.negate(s.coin(0))), 0)
        s = Store()
        self.same(s.support(s.choose(s.coin(0), s.coin(2), s.coin(1))), [0, 1, 2])

    def test_new_references_ascend_from_two(self):
        s = Store()
        self.same(s.node(3, 0, 1), 2)
        self.same(s.node(3, 1, 0), 3)
        self.same(s.node(1, 2, 3), 4)
        self.same(s.node(1, 3, 2), 5)
        self.same(s.node(0, 4, 1), 6)
        self.same(Store().coin(7), 2)

    def test_equal_parts_are_no_node(self):
        s = Store()
        a = s.node(4, 0, 1)
        for part in (0, 1, a):
            for level in (0, 3):
                self.same(s.node(level, part, part), part)
        self.same(s.coin(5), a + 1)

    def test_the_same_triple_again(self):
        s = Store()
        a = s.node(4, 0, 1)
        b = s.node(2, a, 1)
        self.same(s.node(4, 0, 1), a)
        self.same(s.coin(4), a)
        self.same(s.node(2, a, 1), b)
        self.assertEqual(len({a, b, s.node(2, 1, a), s.node(1, a, 1), s.node(2, a, 0)}), 5)

    def test_parts(self):
        s = Store()
        a = s.coin(9)
        b = s.node(4, 1, a)
        self.same((s.level(a), s.low(a), s.high(a)), (9, 0, 1))
        self.same((s.level(b), s.low(b), s.high(b)), (4, 1, a))

    def test_constants_have_no_parts(self):
        for s in (Store(), self.full_store()):
            for a in (0, 1):
                for method in (s.level, s.low, s.high):
                    self.refuses(NotANode, method, a)

    def full_store(self):
        s = Store()
        conjunction(s, 5)
        return s

    def test_stores_are_apart(self):
        s, other = Store(), Store()
        s.coin(3)
        self.same(other.coin(5), 2)
        self.same((s.level(2), other.level(2)), (3, 5))


class OperationsTest(Case):

    def test_all_functions_of_three_coins(self):
        s = Store()
        tables = [table_number(number, 3) for number in range(256)]
        found = [diagram_of(s, table) for table in tables]
        self.assertEqual(len(set(found)), 256)
        at = {table: a for table, a in zip(tables, found)}
        for table, a in zip(tables, found):
            self.same(truth(s, a, 3), table)
            self.same(s.negate(a), at[tuple([not bit for bit in table])])
        for number in range(256):
            for other in range(256):
                a, b = found[number], found[other]
                self.assertEqual(s.both(a, b), found[number & other])
                self.assertEqual(s.either(a, b), found[number | other])
                self.assertEqual(s.without(a, b), found[number & ~other])

    def test_choices(self):
        numbers = Numbers(51)
        s = Store()
        found = [diagram_of(s, table_number(number, 3)) for number in range(256)]
        cases = [(numbers.below(256), numbers.below(256), numbers.below(256))
                 for _ in range(6000)]
        # Equal and constant arguments, and those that are opposite.
        cases.extend([tuple([(0, 255, 23, 232, 170)[k // 5 ** at % 5] for at in range(3)])
                      for k in range(125)])
        for c, a, b in cases:
            self.same(s.choose(found[c], found[a], found[b]), found[c & a | (255 ^ c) & b])

    def test_few_coins_far_apart(self):
        s = Store()
        numbers = Numbers(52)
        levels = (0, 7, 8, 41)
        made = {}
        for _ in range(1500):
            table = random_table(numbers, 4)
            a = 0
            for bits, value in zip(assignments(4), table):
                if value:
                    a = s.either(a, self.assignment(s, levels, bits))
            self.assertEqual(made.setdefault(table, a), a)
        self.assertEqual(len(set(made.values())), len(made))

    def assignment(self, s, levels, bits):
        a = 1
        for level, bit in zip(levels, bits):
            coin = s.coin(level)
            a = s.both(a, coin) if bit else s.without(a, coin)
        return a

    def test_in_a_fresh_store(self):
        """Operations make the nodes that they need, also where none were before."""
        numbers = Numbers(53)
        for _ in range(400):
            s = Store()
            tables = [random_table(numbers, 4) for _ in range(3)]
            c, a, b = [diagram_of(s, table) for table in tables]
            rows = list(zip(*tables))
            for found, expected in (
                    (s.choose(c, a, b), [y if x else z for x, y, z in rows]),
                    (s.negate(c), [not x for x, y, z in rows]),
                    (s.both(c, a), [x and y for x, y, z in rows]),
                    (s.either(c, a), [x or y for x, y, z in rows]),
                    (s.without(c, a), [x and not y for x, y, z in rows]),
                    (s.either_of([c, a, b]), [x or y or z for x, y, z in rows])):
                self.assertEqual(truth(s, found, 4), tuple(expected))
                self.ordered_and_reduced(s, found)

    def ordered_and_reduced(self, s, a):
        triples = set()
        for each in parts_below(s, a):
            low, high = s.low(each), s.high(each)
            self.assertNotEqual(low, high)
            for part in (low, high):
                self.assertTrue(part < each)
                self.assertTrue(part < 2 or s.level(part) > s.level(each))
            triples.add((s.level(each), low, high))
        self.assertEqual(len(triples), len(parts_below(s, a)))

    def test_either_of(self):
        s = Store()
        coins = [s.coin(level) for level in range(4)]
        self.same(s.either_of([]), 0)
        self.same(s.either_of([0, 0]), 0)
        self.same(s.either_of([coins[2]]), coins[2])
        self.same(s.either_of([coins[2], 0, coins[2]]), coins[2])
        self.same(s.either_of([coins[0], 1]), 1)
        given = [coins[3], coins[0], coins[1]]
        found = self.pure(lambda references: s.either_of(references), given)
        self.same(truth(s, found, 4), tuple([a or b or d for a, b, _, d in assignments(4)]))

    def test_references_keep_their_meaning(self):
        s = Store()
        numbers = Numbers(54)
        known = {}
        for _ in range(300):
            table = random_table(numbers, 4)
            known[diagram_of(s, table)] = table
            a, b, c = [numbers.one_of(list(known)) for _ in range(3)]
            s.choose(a, b, c)
            s.restrict(a, numbers.below(5), numbers.below(2) == 0)
        for a, table in known.items():
            self.assertEqual(truth(s, a, 4), table)


class QuestionsTest(Case):

    def test_restrict(self):
        numbers = Numbers(55)
        for _ in range(300):
            s = Store()
            table = random_table(numbers, 4)
            a = diagram_of(s, table)
            for level in range(4):
                for value in (False, True):
                    expected = []
                    for bits in assignments(4):
                        bits[level] = value
                        expected.append(table[assignments(4).index(bits)])
                    found = s.restrict(a, level, value)
                    self.assertEqual(truth(s, found, 4), tuple(expected))
                    self.assertFalse(level in s.support(found))

    def test_restrict_at_other_levels(self):
        s = Store()
        a = s.choose(s.coin(3), s.coin(5), s.coin(8))
        for level in (0, 2, 4, 6, 7, 9, FAR):
            for value in (False, True):
                self.same(s.restrict(a, level, value), a)
                self.same(s.restrict(0, level, value), 0)
                self.same(s.restrict(1, level, value), 1)
        self.same(s.restrict(a, 3, True), s.coin(5))
        self.same(s.restrict(a, 5, True), s.either(s.coin(3), s.coin(8)))
        self.same(s.restrict(a, 8, False), s.both(s.coin(3), s.coin(5)))
        self.same(s.restrict(s.coin(3), 3, True), 1)
        self.same(s.restrict(s.coin(3), 3, False), 0)

    def test_value(self):
        numbers = Numbers(56)
        s = Store()
        for _ in range(60):
            table = random_table(numbers, 4)
            a = diagram_of(s, table)
            for bits, expected in zip(assignments(4), table):
                self.same(self.pure(lambda bits: s.value(a, bits), bits), expected)
                self.same(s.value(a, [*bits, True, False]), expected)
        self.same((s.value(0, []), s.value(1, [])), (False, True))
        self.same(s.value(s.coin(1), [False, True]), True)

    def test_support_and_nodes(self):
        numbers = Numbers(57)
        for _ in range(200):
            s = Store()
            table = random_table(numbers, 4)
            a = diagram_of(s, table)
            levels = [level for level in range(4)
                      if s.restrict(a, level, False) != s.restrict(a, level, True)]
            self.same(s.support(a), levels)
            self.same(s.nodes_below(a), sorted(parts_below(s, a)))
        for a in (0, 1):
            self.same(s.support(a), [])
            self.same(s.nodes_below(a), [])

    def test_nodes_below_only(self):
        s = Store()
        other = s.coin(1)
        a = s.node(2, 0, 1)
        b = s.node(0, a, 1)
        self.same(s.nodes_below(b), [a, b])
        self.same(s.nodes_below(other), [other])
        self.same(s.support(b), [0, 2])

    def test_models(self):
        numbers = Numbers(58)
        s = Store()
        for _ in range(200):
            table = random_table(numbers, 4)
            a = diagram_of(s, table)
            for more in (0, 1, 5):
                self.same(s.models(a, 4 + more), sum(table) * 2 ** more)
        self.same([s.models(0, levels) for levels in (0, 1, 90)], [0, 0, 0])
        self.same([s.models(1, levels) for levels in (0, 1, 90)], [1, 2, 2 ** 90])
        self.same(s.models(s.coin(5), 6), 32)
        self.same(s.models(s.both(s.coin(5), s.coin(2)), 8), 64)

    def test_same_as(self):
        numbers = Numbers(59)
        s, other = Store(), Store()
        other.coin(3)
        tables = [random_table(numbers, 3) for _ in range(40)]
        here = [diagram_of(s, table) for table in tables]
        there = [diagram_of(other, table) for table in reversed(tables)][::-1]
        for table, a in zip(tables, here):
            for table_there, b, c in zip(tables, there, here):
                self.same(s.same_as(a, other, b), table == table_there)
                self.same(other.same_as(b, s, a), table == table_there)
                self.same(s.same_as(a, s, c), table == table_there)
        for a in (0, 1):
            for b in (0, 1):
                self.same(s.same_as(a, other, b), a == b)
            self.same(s.same_as(a, other, there[0]), False)
            self.same(s.same_as(here[0], other, a), False)

    def test_same_shapes_at_other_levels(self):
        s, other = Store(), Store()
        self.same(s.same_as(s.coin(1), other, other.coin(2)), False)
        self.same(s.same_as(s.coin(1), other, other.negate(other.coin(1))), False)
        a = s.node(0, s.coin(1), s.coin(2))
        b = other.node(0, other.coin(1), other.coin(1))
        self.same(s.same_as(a, other, b), False)
        self.same(s.same_as(a, other, other.node(0, other.coin(2), other.coin(1))), False)
        self.same(s.same_as(a, other, other.node(0, other.coin(1), other.coin(2))), True)
        # One node of the first diagram stands where the second one has two.
        shared = s.node(0, s.node(1, s.coin(3), 0), s.node(1, 0, s.coin(3)))
        apart = other.node(0, other.node(1, other.coin(3), 0), other.node(1, 0, other.coin(4)))
        self.same(s.same_as(shared, other, apart), False)
        self.same(other.same_as(apart, s, shared), False)

    def test_questions_change_nothing(self):
        s, other = Store(), Store()
        a = random_diagram(Numbers(60), s, 4)
        last = s.coin(90)
        for _ in range(2):
            s.value(a, [False] * 4)
            s.support(a).append(7)
            s.nodes_below(a).clear()
            s.models(a, 9)
            s.same_as(a, other, 0)
            s.same_as(a, s, last)
            s.level(a), s.low(a), s.high(a)
        self.same(s.coin(91), last + 1)
        self.same(other.coin(0), 2)
        self.same(s.support(last), [90])
        self.same(s.nodes_below(last), [last])


class ManyLevelsTest(Case):

    def test_operations(self):
        s = Store()
        for a, b in ((parity(s, MANY), conjunction(s, MANY)),
                     (conjunction(s, MANY), parity(s, MANY))):
            for method in (s.both, s.either, s.without):
                c = soon(few_calls, method, a, b)
                ones = [True] * MANY
                some = [k % 3 == 0 for k in range(MANY)]
                for bits in (ones, some, ones[1:] + [False]):
                    x, y = s.value(a, bits), s.value(b, bits)
                    expected = {s.both: x and y, s.either: x or y, s.without: x and not y}[method]
                    self.same(s.value(c, bits), expected)
        odd = parity(s, MANY)
        even = few_calls(s.negate, odd)
        self.same(even, s.node(0, s.high(odd), s.low(odd)))
        self.same(few_calls(s.either_of, [odd, even]), 1)
        self.same(few_calls(s.choose, odd, even, odd), 0)
        self.same(few_calls(s.choose, s.coin(0), even, odd),
                  s.node(0, s.low(odd), s.low(odd)))

    def test_questions(self):
        s, other = Store(), Store()
        odd = parity(s, MANY)
        self.same(few_calls(s.support, odd), list(range(MANY)))
        self.same(len(few_calls(s.nodes_below, odd)), 2 * MANY - 1)
        self.same(few_calls(s.models, odd, MANY), 2 ** (MANY - 1))
        self.same(few_calls(s.models, conjunction(s, MANY), MANY + 3), 8)
        self.same(few_calls(s.value, odd, [True] + [False] * MANY), True)
        other.coin(MANY)
        there = parity(other, MANY)
        self.same(few_calls(s.same_as, odd, other, there), True)
        self.same(few_calls(s.same_as, odd, other, other.negate(there)), False)
        last = few_calls(s.restrict, odd, 0, True)
        self.same(last, s.high(odd))
        found = few_calls(s.restrict, odd, MANY - 1, True)
        self.same(s.same_as(found, other, other.negate(parity(other, MANY - 1))), True)

    def test_far_levels(self):
        s = Store()
        a = s.both(s.coin(FAR), s.negate(s.coin(FAR - 1)))
        b = s.choose(s.coin(3), a, s.coin(FAR))
        self.same(s.support(b), [3, FAR - 1, FAR])
        self.same((s.level(a), s.low(a), s.high(a)), (FAR - 1, s.coin(FAR), 0))
        self.same(s.restrict(b, FAR - 1, True), s.without(s.coin(FAR), s.coin(3)))
        self.same(s.restrict(b, FAR, False), 0)
        self.same(len(s.nodes_below(b)), 3)
        self.same(s.either(a, s.negate(a)), 1)
        other = Store()
        self.same(s.same_as(s.coin(FAR), other, other.coin(FAR)), True)
        self.same(s.same_as(s.coin(FAR), other, other.coin(FAR - 1)), False)
        self.same(s.models(0, FAR), 0)
        self.same(s.models(s.coin(10 ** 6), 10 ** 6 + 2) == 2 ** (10 ** 6 + 1), True)


class MemoryTest(Case):

    def test_after_many_choices(self):
        """What a store remembers, and forgets, does not change what it returns."""
        numbers = Numbers(61)
        with mock.patch.object(store_module, "MOST_CHOICES", 20):
            s = Store()
            found = [diagram_of(s, table_number(number, 3)) for number in range(256)]
            for _ in range(3000):
                a, b = numbers.below(256), numbers.below(256)
                self.same(s.either(found[a], found[b]), found[a | b])
                self.same(s.without(found[a], found[b]), found[a & ~b])
            odd, all_of_them = parity(s, 90), conjunction(s, 90)
            expected = s.either(odd, all_of_them)
            for level in range(90):
                s.both(odd, s.coin(level))
            self.same(s.either(odd, all_of_them), expected)


if __name__ == "__main__":
    unittest.main()
