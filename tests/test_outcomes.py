"""Points 8.6 to 8.9: the outcomes of flat programs, for all assignments of coins at once."""

import unittest

from odds.flatrun import run_flat
from odds.outcomes import Outcomes, build_outcomes, choices_under, outcome_under
from odds.parser import parse_program
from odds.store import Store
from odds.unroll import unroll
from tests.diagrams import assert_split, assignments, walk
from tests.samples import flat_programs, sound_programs
from tests.support import EXAMPLE_PROGRAM, Case, few_calls, soon
from tests.worlds import worlds_of

TRUE, FALSE = ("true",), ("false",)
N = [("num", number) for number in range(70)]
A, B, C, D = [("cell", cell) for cell in range(4)]
BAD = ("div", ("num", 1), ("num", 0))
BAD_TRUTH = ("eq", BAD, BAD)


class OutcomesTest(Case):

    def outcomes(self, kinds, code, results=()):
        """The outcomes of a flat program, compared with its runs under all assignments."""
        flat = (tuple(kinds), tuple(code), tuple(results))
        found = build_outcomes(flat)
        self.form(found)
        chances, worlds = worlds_of(flat, 12)
        self.same(found.chances, chances, flat)
        self.same([list(world.bits) for world in worlds], assignments(len(chances)))
        for world in worlds:
            self.compare(flat, found, world)
        return found

    def form(self, found):
        self.assertIs(found.__class__, Outcomes)
        self.assertIs(found.store.__class__, Store)
        self.assertIs(found.chances.__class__, list)
        assert_split(self, found.finished)
        for a in (found.rejected, found.exhausted, found.faulted):
            self.assertIs(a.__class__, int)

    def compare(self, flat, found, world):
        """The outcome and the choices under an assignment are those of a run of its own."""
        bits = list(world.bits)
        holding = [values for values, a in found.finished if walk(found.store, a, bits)]
        ended = [walk(found.store, a, bits)
                 for a in (found.rejected, found.exhausted, found.faulted)]
        self.assertEqual(len(holding) + sum(ended), 1, (flat, bits))
        self.same(outcome_under(found, bits), world.ended, (flat, bits))
        choices = choices_under(flat, found, bits)
        self.same(choices, world.choices, (flat, bits))
        outcome, values, used, _, _ = run_flat(flat, choices)
        self.same((outcome, values), world.ended)
        self.same(used, len(choices))
        self.same(bits, list(world.bits))

    def test_example(self):
        o = self.outcomes(("bool",), ((-1, "flip", 0, N[1], N[3]), (-1, "observe", A)))
        self.same(o.chances, [(1, 3)])
        coin = o.store.coin(0)
        self.same((o.finished, o.rejected, o.exhausted, o.faulted),
                  ((((), coin),), o.store.negate(coin), 0, 0))

    def test_without_draws(self):
        o = self.outcomes((), (), ())
        self.same((o.finished, o.rejected, o.exhausted, o.faulted, o.chances),
                  ((((), 1),), 0, 0, 0, []))
        o = self.outcomes(("int", "bool"), ((-1, "set", 0, N[4]),), (A, B, N[7]))
        self.same(o.finished, (((4, False, 7), 1),))
        for action, expected in ((("fail",), (0, 0, 1)), (("halt",), (0, 1, 0)),
                                 (("observe", FALSE), (1, 0, 0)), (("assert", FALSE), (0, 0, 1)),
                                 (("observe", BAD_TRUTH), (0, 0, 1)), (("set", 0, BAD), (0, 0, 1)),
                                 (("weigh", N[0], N[0]), (0, 0, 1))):
            o = self.outcomes(("int",), ((-1, *action), (-1, "fail")), (A,))
            self.same((o.rejected, o.exhausted, o.faulted), expected)
            self.same((o.finished, o.chances), ((), []))
        o = self.outcomes(("int",), (), (A, BAD))
        self.same((o.finished, o.faulted), ((), 1))

    def test_what_ends_the_run_hides_what_follows(self):
        code = [(-1, "flip", 0, N[1], N[2]), (-1, "observe", A), (-1, "halt")]
        o = self.outcomes(("bool",), code, (BAD,))
        coin = o.store.coin(0)
        self.same((o.rejected, o.exhausted, o.faulted), (o.store.negate(coin), coin, 0))
        code = [(-1, "flip", 0, N[1], N[2]), (0, "fail"), (-1, "assert", A), (-1, "observe", A)]
        self.same(self.outcomes(("bool",), code).faulted, 1)

    def test_attributes_are_set_from_the_beginning(self):
        found = vars(build_outcomes(((), (), ())))
        for name in ("store", "chances", "finished", "rejected", "exhausted", "faulted"):
            self.assertIn(name, found)

    def test_guards(self):
        kinds = ("bool", "bool", "int", "int", "int")
        flips = [(-1, "flip", 0, N[1], N[3]), (-1, "flip", 1, N[1], N[2])]
        for action in (("set", 2, N[5]), ("store", 2, 3, ("add", C, N[1]), N[6]), ("fail",),
                       ("halt",), ("observe", B), ("assert", B), ("weigh", N[1], N[4]),
                       ("flip", 1, N[1], N[4]), ("uniform", 2, N[1], N[3]), ("flip", 0, C, N[2]),
                       ("pick", 2, ((N[4], N[1]), (BAD, N[2]), (C, N[1]))),
                       ("split", 0, 1, B), ("split", 1, 0, ("eq", C, N[0])),
                       ("set", 0, ("eq", A, B)), ("store", 2, 1, N[1], N[6])):
            for before in ((), ((-1, "set", 2, ("cond", B, N[1], N[2])),)):
                code = [*flips, *before, (0, *action), (1, "set", 3, ("add", C, N[9]))]
                self.outcomes(kinds, code, (A, B, C, D, ("cell", 4)))

    def test_values_before_the_run_ends(self):
        """What a cell was where the run has ended is no value of it later."""
        code = [(-1, "uniform", 0, N[0], N[2]), (-1, "observe", ("lt", A, N[2])),
                (-1, "set", 1, ("div", N[6], ("sub", A, N[2]))), (-1, "store", 0, 2, A, N[5])]
        o = self.outcomes(("int", "int"), code, (A, B))
        self.same([values for values, _ in o.finished], [(1, 5), (5, -3)])
        self.same(o.faulted, 0)

    def test_stores(self):
        for size in (1, 2, 3):
            code = [(-1, "uniform", 0, ("neg", N[1]), N[2]), (-1, "flip", 4, N[1], N[2]),
                    (-1, "store", 1, size, A, ("div", ("add", A, N[8]), ("sub", A, N[1]))),
                    (4, "store", 1, size, ("add", A, N[1]), ("at", 1, size, A))]
            self.outcomes(("int", "int", "int", "int", "bool"), code, (A, B, C, D))

    def test_coins_of_draws(self):
        draws = (
            (("flip", 0, N[1], N[3]), [(1, 3)]),
            (("flip", 0, N[0], N[3]), [(0, 1)]),
            (("flip", 0, N[3], N[3]), [(1, 1)]),
            (("weigh", N[2], N[3]), [(2, 3)]),
            (("uniform", 1, N[2], N[5]), [(1, 4), (1, 3), (1, 2)]),
            (("pick", 1, ((N[1], N[2]), (N[1], N[0]), (BAD, N[1]))), [(2, 3), (0, 1)]),
            (("pick", 1, ((N[1], N[0]), (N[2], N[3]), (BAD, N[0]))), [(0, 1), (1, 1)]),
            # One alternative.
            (("uniform", 1, N[5], N[5]), []), (("pick", 1, ((N[4], N[3]),)), []),
            # Draws that are not possible.
            (("flip", 0, N[2], N[1]), []), (("flip", 0, N[0], N[0]), []),
            (("flip", 0, ("neg", N[1]), N[1]), []), (("weigh", N[2], N[1]), []),
            (("uniform", 1, N[5], N[4]), []), (("uniform", 1, N[0], N[64]), []),
            (("pick", 1, ((N[4], N[0]),)), []),
            (("pick", 1, ((N[4], N[2]), (N[4], ("neg", N[1])))), []),
            (("flip", 0, BAD, N[1]), []), (("uniform", 1, BAD, BAD), []),
            (("pick", 1, ((N[1], N[1]), (N[1], BAD))), []),
        )
        for action, chances in draws:
            self.same(self.outcomes(("bool", "int"), [(-1, *action)], (A, B)).chances, chances)
            code = [(-1, *action), (-1, "flip", 0, N[1], N[9])]
            possible = chances or action in (("uniform", 1, N[5], N[5]), ("pick", 1, ((N[4], N[3]),)))
            self.same(self.outcomes(("bool", "int"), code, (A,)).chances,
                      [*chances, (1, 9)] if possible else [])

    def test_wide_draws(self):
        flat = (("int",), ((-1, "uniform", 0, N[1], N[64]),), (A,))
        o = soon(build_outcomes, flat)
        self.same(o.chances, [(1, 64 - k) for k in range(63)])
        self.same([values for values, _ in o.finished], [(k,) for k in range(1, 65)])
        bits = [False] * 63
        self.same(outcome_under(o, bits), ("finished", (64,)))
        self.same(choices_under(flat, o, bits), [63])
        bits[40] = bits[50] = True
        self.same(outcome_under(o, bits), ("finished", (41,)))
        self.same(choices_under(flat, o, bits), [40])

    def test_draws_that_cannot_be_reached(self):
        flip = ("flip", 1, N[1], N[7])
        kinds = ("bool", "bool", "int")
        for code in (
                [(0, *flip)], [(-1, "halt"), (-1, *flip)], [(-1, "fail"), (-1, *flip)],
                [(-1, "observe", FALSE), (-1, *flip)], [(-1, "set", 2, BAD), (-1, *flip)],
                [(-1, "flip", 0, N[2], N[1]), (-1, *flip)]):
            self.same(self.outcomes(kinds, code, (A, B)).chances, [])
        half = (-1, "flip", 0, N[1], N[2])
        for code in (
                [half, (-1, "observe", A), (-1, "split", 1, 0, A), (0, *flip)],
                [half, (0, "halt"), (0, *flip)], [half, (0, "set", 0, FALSE), (0, *flip)],
                [half, (-1, "assert", A), (-1, "observe", ("not", A)), (-1, *flip)]):
            self.same(self.outcomes(kinds, code, (A, B)).chances, [(1, 2)])
        # A coin without any chance may be True all the same.
        code = [(-1, "flip", 0, N[0], N[2]), (0, *flip)]
        self.same(self.outcomes(kinds, code, (A, B)).chances, [(0, 1), (1, 7)])

    def test_parameters_that_differ(self):
        kinds = ("int", "bool", "int")
        first = (-1, "pick", 0, ((N[3], N[1]), (N[1], N[1]), (N[2], N[2])))
        coins = [(1, 4), (1, 3)]
        # In ascending order of the parameters, not of the alternatives before.
        self.same(self.outcomes(kinds, [first, (-1, "flip", 1, N[1], ("mul", A, N[2]))],
                                (A, B)).chances, [*coins, (1, 2), (1, 4), (1, 6)])
        self.same(self.outcomes(kinds, [first, (-1, "flip", 1, N[1], ("sub", N[8], A))],
                                (A, B)).chances, [*coins, (1, 5), (1, 6), (1, 7)])
        self.same(self.outcomes(kinds, [first, (-1, "weigh", ("div", A, N[2]), A)],
                                (A,)).chances, [*coins, (0, 1), (1, 2), (1, 3)])
        # Equal parameters of different runs share their coins.
        self.same(self.outcomes(kinds, [first, (-1, "flip", 1, ("div", A, N[2]), N[2])],
                                (A, B)).chances, [*coins, (0, 1), (1, 2)])
        self.same(self.outcomes(kinds, [first, (-1, "uniform", 2, A, N[3])],
                                (A, C)).chances, [*coins, (1, 3), (1, 2), (1, 2)])
        weights = [(N[5], ("sub", A, N[1])), (N[6], N[1])]
        self.same(self.outcomes(kinds, [first, (-1, "pick", 2, tuple(weights))], (A, C)).chances,
                  [*coins, (0, 1), (1, 2), (2, 3)])
        # Some of the parameters make no draw possible, or fault.
        self.same(self.outcomes(kinds, [first, (-1, "flip", 1, N[2], A)], (A, B)).chances,
                  [*coins, (1, 1), (2, 3)])
        o = self.outcomes(kinds, [first, (-1, "flip", 1, N[1], ("div", N[2], ("sub", A, N[1])))],
                          (A, B))
        self.same(o.chances, [*coins, (1, 1), (1, 2)])
        self.same(self.outcomes(kinds, [first, (-1, "uniform", 2, N[2], A)], (A, C)).chances,
                  [*coins, (1, 2)])
        # Only what can hold when the draw comes counts.
        code = [first, (-1, "observe", ("lt", N[1], A)), (-1, "flip", 1, N[1], A)]
        self.same(self.outcomes(kinds, code, (A, B)).chances, [*coins, (1, 2), (1, 3)])

    def test_a_pick_evaluates_only_what_is_chosen(self):
        code = [(-1, "uniform", 0, N[0], N[2]),
                (-1, "pick", 0, ((("div", N[4], A), N[1]), (A, A), (N[7], ("sub", N[2], A))))]
        o = self.outcomes(("int",), code, (A,))
        self.same(o.chances, [(1, 3), (1, 2), (1, 3), (0, 1), (1, 3), (1, 2), (1, 3), (1, 1)])

    def test_a_guard_that_a_draw_overwrites(self):
        code = [(-1, "flip", 0, N[1], N[2]), (0, "flip", 0, N[1], N[3]), (0, "set", 1, N[1]),
                (0, "split", 0, 2, ("eq", B, N[0])), (2, "set", 1, N[5])]
        self.outcomes(("bool", "int", "bool"), code, (A, B, C))

    def test_programs(self):
        o = build_outcomes(unroll(EXAMPLE_PROGRAM))
        self.form(o)
        many = 0
        for program, _ in sound_programs(31, 500):
            flat = unroll(program)
            found = worlds_of(flat, 8)
            if found is not None and len(found[0]) > 0:
                self.outcomes(*flat)
                many += 1
        self.assertTrue(many > 100, many)

    def test_random(self):
        outcomes = {}
        for flat, _ in flat_programs(32, 1500, 12):
            found = worlds_of(flat, 7)
            if found is None:
                continue
            self.outcomes(*flat)
            for world in found[1]:
                outcomes[world.ended[0]] = outcomes.get(world.ended[0], 0) + 1
        self.assertEqual(len(outcomes), 4)
        self.assertTrue(min(outcomes.values()) > 200, outcomes)

    def test_each_call_has_its_own_store(self):
        flat = (("bool",), ((-1, "flip", 0, N[1], N[2]),), (A,))
        first = build_outcomes(flat)
        first.chances.append((1, 7))
        first.store.coin(5)
        second = build_outcomes(flat)
        self.same(second.chances, [(1, 2)])
        self.same(second.store.coin(5) > 2, True)

    def test_many_coins(self):
        program = parse_program("int x; bool b; main 0 { repeat 100 { b ~ flip(1, 3); "
                                "if b { x := x + 1; } } } return x < 3;")
        flat = unroll(program)
        o = soon(few_calls, build_outcomes, flat, seconds=60)
        self.same(o.chances, [(1, 3)] * 100)
        self.same([values for values, _ in o.finished], [(False,), (True,)])
        self.same(o.store.models(o.finished[1][1], 100), 1 + 100 + 100 * 99 // 2)
        bits = [k in (3, 50) for k in range(100)]
        self.same(outcome_under(o, bits), ("finished", (True,)))
        self.same(choices_under(flat, o, bits), [0 if bit else 1 for bit in bits])


if __name__ == "__main__":
    unittest.main()
