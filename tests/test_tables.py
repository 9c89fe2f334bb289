"""Points 1.7 to 1.9: tables."""

import itertools
import unittest
from fractions import Fraction

from odds.errors import EmptyTable, NoSuchPlace
from odds.tables import joined, mass_at, mean, normalized, projected, scaled, table_total, tabulate
from tests.support import Case, Numbers

MIXED = [((-2, True), (1, 4)), ((0, False), (1, 3)), ((0, True), (1, 6)), ((7, False), (5, 1))]


def random_entries(seed, many):
    numbers = Numbers(seed)
    entries = []
    for _ in range(many):
        mass = Fraction(numbers.below(5), 1 + numbers.below(6))
        key = (numbers.below(5) - 2, numbers.below(2) == 1, numbers.below(3))
        entries.append((key, (mass.numerator, mass.denominator)))
    return entries


def table_of(entries):
    """The table of the entries, by Python's own fractions."""
    sums = {}
    for key, (top, bottom) in entries:
        sums[key] = sums.get(key, 0) + Fraction(top, bottom)
    return [(key, (sums[key].numerator, sums[key].denominator))
            for key in sorted(sums) if sums[key]]


class TabulateTest(Case):

    def test_example(self):
        entries = [((2,), (1, 3)), ((0,), (0, 1)), ((1,), (1, 6)), ((2,), (1, 6))]
        self.same(self.pure(tabulate, entries), [((1,), (1, 6)), ((2,), (1, 2))])

    def test_empty(self):
        self.same(self.pure(tabulate, []), [])
        self.same(tabulate([((1,), (0, 1))]), [])
        self.same(tabulate([((), (0, 1)), ((), (0, 1))]), [])

    def test_empty_key(self):
        self.same(tabulate([((), (1, 3)), ((), (1, 6)), ((), (0, 1))]), [((), (1, 2))])

    def test_order(self):
        keys = [(-3, False), (-1, True), (0, False), (0, True), (10, False), (10, True)]
        for order in itertools.permutations(keys):
            table = tabulate([(key, (1, 6)) for key in order])
            self.same(table, [(key, (1, 6)) for key in keys])

    def test_zero_beside_others(self):
        self.same(tabulate([((1,), (0, 1)), ((1,), (1, 2)), ((1,), (0, 1))]), [((1,), (1, 2))])

    def test_random(self):
        for seed in range(40):
            entries = random_entries(seed, seed)
            self.same(self.pure(tabulate, entries), table_of(entries))

    def test_huge(self):
        huge = 5 ** 9000
        self.same(tabulate([((huge,), (1, huge)), ((-huge,), (huge, 7)), ((huge,), (1, huge))]),
                  [((-huge,), (huge, 7)), ((huge,), (2, huge))])


class LookupTest(Case):

    def test_mass_at(self):
        for key, mass in MIXED:
            self.same(self.pure(mass_at, MIXED, key), mass)
        for key in ((-2, False), (7, True), (8, False), (-3, True), (1, False)):
            self.same(mass_at(MIXED, key), (0, 1))
        self.same(mass_at([], (1,)), (0, 1))
        self.same(mass_at([((), (1, 2))], ()), (1, 2))
        self.same(mass_at([], ()), (0, 1))

    def test_total(self):
        self.same(self.pure(table_total, MIXED), (23, 4))
        self.same(table_total([]), (0, 1))
        self.same(table_total([((), (2, 3))]), (2, 3))


class ScaledTest(Case):

    def test_scaled(self):
        self.same(self.pure(scaled, MIXED, (2, 5)), [
            ((-2, True), (1, 10)), ((0, False), (2, 15)), ((0, True), (1, 15)),
            ((7, False), (2, 1))])

    def test_by_one(self):
        self.same(self.pure(scaled, MIXED, (1, 1)), MIXED)

    def test_by_zero(self):
        self.same(self.pure(scaled, MIXED, (0, 1)), [])
        self.same(scaled([], (0, 1)), [])

    def test_empty(self):
        self.same(self.pure(scaled, [], (1, 2)), [])
        self.same(scaled([((), (1, 2))], (4, 1)), [((), (2, 1))])


class JoinedTest(Case):

    def test_joined(self):
        first = [((0,), (1, 2)), ((2,), (1, 3))]
        second = [((-1,), (1, 4)), ((2,), (1, 6)), ((3,), (1, 1))]
        together = [((-1,), (1, 4)), ((0,), (1, 2)), ((2,), (1, 2)), ((3,), (1, 1))]
        self.same(self.pure(joined, first, second), together)
        self.same(self.pure(joined, second, first), together)

    def test_empty(self):
        self.same(self.pure(joined, [], []), [])
        self.same(self.pure(joined, MIXED, []), MIXED)
        self.same(self.pure(joined, [], MIXED), MIXED)

    def test_empty_key(self):
        self.same(joined([((), (1, 2))], [((), (1, 3))]), [((), (5, 6))])

    def test_random(self):
        for seed in range(20):
            first, second = random_entries(seed, 9), random_entries(seed + 99, 9)
            self.same(self.pure(joined, table_of(first), table_of(second)),
                      table_of(first + second))


class NormalizedTest(Case):

    def test_normalized(self):
        table = [((False,), (1, 6)), ((True,), (1, 3))]
        self.same(self.pure(normalized, table), [((False,), (1, 3)), ((True,), (2, 3))])
        self.same(normalized([((), (7, 3))]), [((), (1, 1))])
        self.same(table_total(normalized(MIXED)), (1, 1))
        self.same(mass_at(normalized(MIXED), (7, False)), (20, 23))

    def test_total_of_one(self):
        table = [((1,), (1, 3)), ((2,), (2, 3))]
        self.same(self.pure(normalized, table), table)

    def test_empty(self):
        self.refuses(EmptyTable, normalized, [])


class ProjectedTest(Case):

    def test_example(self):
        self.same(self.pure(projected, [((0, True), (1, 4)), ((1, True), (1, 2))], [1]),
                  [((True,), (3, 4))])

    def test_order_of_places(self):
        self.same(self.pure(projected, MIXED, [1, 0]), [
            ((False, 0), (1, 3)), ((False, 7), (5, 1)), ((True, -2), (1, 4)),
            ((True, 0), (1, 6))])
        self.same(self.pure(projected, MIXED, [0, 1]), MIXED)

    def test_repeated_places(self):
        self.same(self.pure(projected, MIXED, [0, 1, 0, 0]), [
            ((-2, True, -2, -2), (1, 4)), ((0, False, 0, 0), (1, 3)),
            ((0, True, 0, 0), (1, 6)), ((7, False, 7, 7), (5, 1))])

    def test_added(self):
        self.same(projected(MIXED, [0]), [((-2,), (1, 4)), ((0,), (1, 2)), ((7,), (5, 1))])

    def test_no_places(self):
        self.same(self.pure(projected, MIXED, []), [((), (23, 4))])
        self.same(projected([((), (1, 2))], []), [((), (1, 2))])

    def test_empty(self):
        for places in ([], [0], [-1], [5, 9]):
            self.same(self.pure(projected, [], places), [])

    def test_no_such_place(self):
        for places in ([2], [-1], [0, 2], [2, 0], [0, 1, -1], [-2], [100]):
            self.refuses(NoSuchPlace, projected, MIXED, places)
        for places in ([0], [-1], [1]):
            self.refuses(NoSuchPlace, projected, [((), (1, 1))], places)
        self.refuses(NoSuchPlace, projected, [((5,), (1, 1))], [1])
        self.refuses(NoSuchPlace, projected, [((5,), (1, 1))], [-1])


class MeanTest(Case):

    def test_mean(self):
        self.same(self.pure(mean, MIXED, 0), (69, 2))
        self.same(mean([((3,), (1, 2)), ((5,), (1, 6))], 0), (7, 3))
        self.same(mean([((-3,), (1, 2)), ((3,), (1, 2))], 0), (0, 1))

    def test_booleans(self):
        self.same(self.pure(mean, MIXED, 1), (5, 12))
        self.same(mean([((True,), (1, 1))], 0), (1, 1))
        self.same(mean([((False,), (1, 1))], 0), (0, 1))

    def test_empty(self):
        for place in (0, 1, -1):
            self.same(mean([], place), (0, 1))

    def test_no_such_place(self):
        for place in (2, -1, -2, 100):
            self.refuses(NoSuchPlace, mean, MIXED, place)
        for place in (0, 1, -1):
            self.refuses(NoSuchPlace, mean, [((), (1, 1))], place)


if __name__ == "__main__":
    unittest.main()
