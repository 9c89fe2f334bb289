"""Points 9.6 and 9.7: answers."""

import unittest
from fractions import Fraction

from odds.answers import (answer_of, evidence, expected, lost, marginal, posterior,
                          probability_that)
from odds.errors import NoEvidence, NoSuchPlace
from odds.outcomes import build_outcomes
from tests.diagrams import mass_of
from tests.reference import pair_of, total_of
from tests.samples import flat_programs
from tests.support import Case
from tests.worlds import worlds_of

NONE, ONE = (0, 1), (1, 1)
N = [("num", number) for number in range(20)]

EMPTY = ((), (1, 2), NONE, (1, 2))
WITHOUT_RESULTS = ((((), (1, 3)),), (1, 6), (1, 2), NONE)
MIXED = (
    (((-2, False, 5), (1, 8)), ((0, True, 5), (1, 4)), ((3, False, 5), (1, 16)),
     ((3, True, 5), (1, 16))),
    (1, 4), (1, 8), (1, 8),
)
SURE = ((((7,), ONE),), NONE, NONE, NONE)


class AnswerOfTest(Case):

    def test_examples(self):
        code = ((-1, "uniform", 0, N[0], N[5]), (-1, "observe", ("ne", ("cell", 0), N[1])),
                (-1, "split", 1, 2, ("eq", ("cell", 0), N[2])), (1, "halt"),
                (-1, "set", 0, ("div", N[12], ("cell", 0))))
        flat = (("int", "bool", "bool"), code, (("lt", ("cell", 0), N[4]),))
        self.same(answer_of(build_outcomes(flat)),
                  ((((False,), (1, 6)), ((True,), (1, 3))), (1, 6), (1, 6), (1, 6)))
        self.same(answer_of(build_outcomes(((), (), ()))), ((((), ONE),), NONE, NONE, NONE))
        self.same(answer_of(build_outcomes(((), ((-1, "halt"),), ()))), ((), NONE, ONE, NONE))

    def test_results_without_mass_are_left_out(self):
        code = ((-1, "pick", 0, ((N[4], N[0]), (N[2], N[1]), (N[3], N[0]))),)
        outcomes = build_outcomes((("int",), code, (("cell", 0),)))
        self.same([values for values, _ in outcomes.finished], [(2,), (3,), (4,)])
        self.same(answer_of(outcomes), ((((2,), ONE),), NONE, NONE, NONE))
        code = (*code, (-1, "observe", ("ne", ("cell", 0), N[2])))
        self.same(answer_of(build_outcomes((("int",), code, (("cell", 0),)))),
                  ((), ONE, NONE, NONE))

    def test_random(self):
        for flat, _ in flat_programs(41, 600, 10):
            found = worlds_of(flat, 7)
            if found is None:
                continue
            chances, worlds = found
            sums = {}
            for world in worlds:
                sums[world.ended] = sums.get(world.ended, 0) + mass_of(world.bits, chances)
            table = [(values, pair_of(mass)) for (outcome, values), mass in sums.items()
                     if outcome == "finished" and mass > 0]
            others = [pair_of(sums.get((outcome, ()), Fraction(0)))
                      for outcome in ("rejected", "exhausted", "faulted")]
            answer = answer_of(build_outcomes(flat))
            self.same(answer, (tuple(sorted(table)), *others))
            self.assertEqual(total_of(answer), 1)


class QuestionsTest(Case):

    def test_evidence_and_lost(self):
        for answer, mass in ((EMPTY, NONE), (WITHOUT_RESULTS, (1, 3)), (MIXED, (1, 2)),
                             (SURE, ONE)):
            self.same(self.pure(evidence, answer), mass)
            self.same(self.pure(lost, answer), pair_of(1 - Fraction(*mass)))
        self.same(lost(((), (1, 6), (1, 3), (1, 2))), ONE)

    def test_posterior(self):
        self.same(posterior(((((1,), (1, 3)), ((2,), (1, 6))), (1, 2), NONE, NONE)),
                  [((1,), (2, 3)), ((2,), (1, 3))])
        self.same(self.pure(posterior, MIXED),
                  [((-2, False, 5), (1, 4)), ((0, True, 5), (1, 2)), ((3, False, 5), (1, 8)),
                   ((3, True, 5), (1, 8))])
        self.same(self.pure(posterior, WITHOUT_RESULTS), [((), ONE)])
        self.same(posterior(SURE), [((7,), ONE)])
        self.refuses(NoEvidence, posterior, EMPTY)

    def test_marginal(self):
        self.same(self.pure(marginal, MIXED, 0),
                  [((-2,), (1, 4)), ((0,), (1, 2)), ((3,), (1, 4))])
        self.same(self.pure(marginal, MIXED, 1), [((False,), (3, 8)), ((True,), (5, 8))])
        self.same(self.pure(marginal, MIXED, 2), [((5,), ONE)])
        self.same(marginal(SURE, 0), [((7,), ONE)])

    def test_expected(self):
        self.same(self.pure(expected, MIXED, 0), (1, 4))
        self.same(self.pure(expected, MIXED, 1), (5, 8))
        self.same(self.pure(expected, MIXED, 2), (5, 1))
        self.same(expected(((((-4,), (1, 3)), ((2,), (1, 6))), (1, 2), NONE, NONE), 0), (-2, 1))
        self.same(expected(((((False,), (1, 3)),), (2, 3), NONE, NONE), 0), NONE)

    def test_probability_that(self):
        for place, value, mass in (
                (0, -2, (1, 4)), (0, 0, (1, 2)), (0, 3, (1, 4)), (0, 5, NONE), (0, -3, NONE),
                (1, True, (5, 8)), (1, False, (3, 8)), (2, 5, ONE), (2, 0, NONE)):
            self.same(self.pure(probability_that, MIXED, place, value), mass)
        self.same(probability_that(((((True,), (1, 9)),), (8, 9), NONE, NONE), 0, False), NONE)
        self.same(probability_that(((((True,), (1, 9)),), (8, 9), NONE, NONE), 0, True), ONE)

    def test_no_such_place(self):
        for answer, length in ((MIXED, 3), (SURE, 1), (WITHOUT_RESULTS, 0)):
            for place in (-1, -length - 1, length, length + 1, 10 ** 20):
                self.refuses(NoSuchPlace, marginal, answer, place)
                self.refuses(NoSuchPlace, expected, answer, place)
                self.refuses(NoSuchPlace, probability_that, answer, place, 5)

    def test_no_evidence_comes_first(self):
        for place in (-1, 0, 1):
            self.refuses(NoEvidence, marginal, EMPTY, place)
            self.refuses(NoEvidence, expected, EMPTY, place)
            self.refuses(NoEvidence, probability_that, EMPTY, place, 1)

    def test_random(self):
        many = 0
        for flat, _ in flat_programs(42, 400, 10):
            if worlds_of(flat, 7) is None:
                continue
            answer = answer_of(build_outcomes(flat))
            if answer[0]:
                many += 1
                whole = Fraction(*evidence(answer))
                self.assertEqual(whole + Fraction(*lost(answer)), 1)
                self.same(posterior(answer), [(key, pair_of(Fraction(*mass) / whole))
                                              for key, mass in answer[0]])
                for place in range(len(flat[2])):
                    self.check_place(answer, place, whole)
        self.assertTrue(many > 100)

    def check_place(self, answer, place, whole):
        masses = {}
        for key, mass in answer[0]:
            masses[key[place]] = masses.get(key[place], 0) + Fraction(*mass) / whole
        self.same(marginal(answer, place),
                  [((value,), pair_of(masses[value])) for value in sorted(masses)])
        self.same(expected(answer, place),
                  pair_of(sum([value * mass for value, mass in masses.items()], Fraction(0))))
        for value, mass in masses.items():
            self.same(probability_that(answer, place, value), pair_of(mass))


if __name__ == "__main__":
    unittest.main()
