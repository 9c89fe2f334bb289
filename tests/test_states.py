"""Point 10.3: masses of states, carried from instruction to instruction."""

import unittest
from fractions import Fraction

from odds.parser import parse_program
from odds.states import carry
from odds.unroll import unroll
from tests.reference import all_paths, answer_of_paths, pair_of, run_flat_program, total_of
from tests.samples import flat_programs, sound_programs
from tests.support import Case, few_calls, soon

NONE, ONE = (0, 1), (1, 1)
TRUE, FALSE = ("true",), ("false",)
N = [("num", number) for number in range(70)]
A, B, C = [("cell", cell) for cell in range(3)]
BAD = ("div", ("num", 1), ("num", 0))


class CarryTest(Case):

    def answer(self, kinds, code, results, expected):
        flat = (kinds, tuple(code), tuple(results))
        self.same(self.pure(carry, flat), expected)
        self.same(answer_of_paths(all_paths(run_flat_program, flat)), expected)

    def test_without_draws(self):
        self.answer((), (), (), ((((), ONE),), NONE, NONE, NONE))
        self.answer(("int", "bool"), (), (A, B), ((((0, False), ONE),), NONE, NONE, NONE))
        self.answer(("int",), [(-1, "set", 0, N[4])], (A,), ((((4,), ONE),), NONE, NONE, NONE))
        for action, lost in ((("fail",), (NONE, NONE, ONE)), (("halt",), (NONE, ONE, NONE)),
                             (("observe", FALSE), (ONE, NONE, NONE)),
                             (("assert", FALSE), (NONE, NONE, ONE)),
                             (("set", 0, BAD), (NONE, NONE, ONE)),
                             (("uniform", 0, N[1], N[0]), (NONE, NONE, ONE))):
            self.answer(("int",), [(-1, *action), (-1, "fail")], (A,), ((), *lost))
        self.answer(("int",), [], (A, BAD), ((), NONE, NONE, ONE))

    def test_guards(self):
        code = [(-1, "flip", 0, N[1], N[3]), (0, "set", 1, N[5]), (-1, "split", 0, 2, ("not", A)),
                (2, "uniform", 1, N[1], N[2]), (0, "weigh", N[1], N[4])]
        self.answer(("bool", "int", "bool"), code, (A, B),
                    ((((False, 1), (1, 6)), ((False, 2), (1, 6)), ((True, 0), (1, 6))),
                     (1, 2), NONE, NONE))

    def test_alternatives(self):
        pick = (-1, "pick", 0, ((N[4], N[1]), (N[5], N[0]), (BAD, N[2]), (N[4], N[3])))
        self.answer(("int",), [pick], (A,), ((((4,), (2, 3)),), NONE, NONE, (1, 3)))
        self.answer(("int",), [(-1, "weigh", N[0], N[4])], (A,), ((), ONE, NONE, NONE))
        self.answer(("int",), [(-1, "weigh", N[4], N[4])], (A,),
                    ((((0,), ONE),), NONE, NONE, NONE))
        self.answer(("int",), [(-1, "uniform", 0, N[1], N[3]), (-1, "uniform", 0, A, N[3])], (A,),
                    ((((1,), (1, 9)), ((2,), (5, 18)), ((3,), (11, 18))), NONE, NONE, NONE))

    def test_results_that_fault(self):
        code = [(-1, "uniform", 0, N[0], N[3])]
        self.answer(("int",), code, (("div", N[6], A),),
                    ((((2,), (1, 4)), ((3,), (1, 4)), ((6,), (1, 4))), NONE, NONE, (1, 4)))
        self.answer(("int",), code, (("div", A, N[2]), ("mod", N[3], ("sub", A, N[1]))),
                    ((((0, 0), (1, 4)), ((1, 0), (1, 4)), ((1, 1), (1, 4))), NONE, NONE, (1, 4)))

    def test_paths_that_meet(self):
        flip = (-1, "flip", 0, N[1], N[2])
        flat = (("bool",), (flip,) * 40, (A,))
        self.same(soon(carry, flat, seconds=5),
                  ((((False,), (1, 2)), ((True,), (1, 2))), NONE, NONE, NONE))
        flat = unroll(parse_program("bool b; main 0 { repeat 40 { b ~ flip(1, 2); } } return b;"))
        self.same(len(flat[1]), 40)
        self.same(soon(few_calls, carry, flat, seconds=5),
                  ((((False,), (1, 2)), ((True,), (1, 2))), NONE, NONE, NONE))
        code = (flip, (0, "set", 1, ("add", B, N[1]))) * 60
        answer = soon(carry, (("bool", "int"), code, (("mod", B, N[2]),)), seconds=10)
        self.same(answer, ((((0,), (1, 2)), ((1,), (1, 2))), NONE, NONE, NONE))
        code = ((-1, "uniform", 0, N[0], N[63]), (-1, "set", 0, ("mod", A, N[3]))) * 30
        answer = soon(carry, (("int",), code, (A,)), seconds=10)
        self.same(answer, ((((0,), (11, 32)), ((1,), (21, 64)), ((2,), (21, 64))),
                           NONE, NONE, NONE))

    def test_equal_states_only(self):
        """States that differ in a cell that was written are not taken for equal."""
        code = [(-1, "flip", 0, N[1], N[4]), (-1, "split", 1, 2, A), (-1, "set", 0, TRUE),
                (1, "flip", 0, N[1], N[2])]
        self.answer(("bool", "bool", "bool"), code, (A, B),
                    ((((False, True), (1, 8)), ((True, False), (3, 4)), ((True, True), (1, 8))),
                     NONE, NONE, NONE))

    def test_many_instructions(self):
        program = parse_program("int x; main 0 { for x from 1 to 100 { weigh(x, 101); } } return x;")
        mass = Fraction(1)
        for k in range(1, 101):
            mass *= Fraction(k, 101)
        self.same(soon(few_calls, carry, unroll(program)),
                  ((((100,), pair_of(mass)),), pair_of(1 - mass), NONE, NONE))

    def test_random(self):
        many = 0
        for flat, _ in flat_programs(43, 1200, 12):
            found = all_paths(run_flat_program, flat, 200)
            if found is not None:
                many += len(found)
                answer = carry(flat)
                self.same(answer, answer_of_paths(found), flat)
                self.assertEqual(total_of(answer), 1)
        self.assertTrue(many > 1500, many)

    def test_random_programs(self):
        for program, _ in sound_programs(44, 300):
            flat = unroll(program)
            found = all_paths(run_flat_program, flat, 200)
            if found is not None:
                self.same(carry(flat), answer_of_paths(found), program)


if __name__ == "__main__":
    unittest.main()
