"""Points 5.1, 5.4 and 5.5: runs of flat programs, their paths and their answers."""

import inspect
import unittest

from odds.flatrun import flat_paths, run_flat, weigh_flat
from tests.reference import all_paths, answer_of_paths, run_flat_program, total_of
from tests.samples import flat_programs
from tests.support import Case, soon

NONE, ONE = (0, 1), (1, 1)
TRUE, FALSE = ("true",), ("false",)
BAD = ("div", ("num", 1), ("num", 0))
BAD_TRUTH = ("eq", BAD, BAD)
N = [("num", number) for number in range(65)]

# Each tag, with expressions that would fault or end the run.
ACTIONS = (
    ("set", 0, BAD), ("set", 1, BAD_TRUTH), ("store", 2, 2, ("num", 5), ("num", 1)),
    ("store", 2, 2, ("num", 0), BAD), ("store", 2, 2, BAD, ("num", 1)), ("flip", 1, BAD, BAD),
    ("flip", 1, ("num", 2), ("num", 1)), ("uniform", 0, ("num", 1), ("num", 0)),
    ("uniform", 0, BAD, BAD), ("pick", 0, ((BAD, BAD),)), ("pick", 0, ((N[1], N[0]),)),
    ("observe", FALSE), ("observe", BAD_TRUTH), ("weigh", N[2], N[1]), ("weigh", BAD, BAD),
    ("assert", FALSE), ("assert", BAD_TRUTH), ("fail",), ("halt",), ("split", 5, 6, BAD_TRUTH),
)
DRAWS = (("flip", 1, N[1], N[3]), ("uniform", 0, N[1], N[5]), ("pick", 0, ((N[7], N[1]),)),
         ("weigh", N[1], N[3]))
# Two numbers with a truth between them, an array, a number and two truths.
CELLS = ("int", "bool", "int", "int", "int", "bool", "bool")
ALL = tuple([("cell", cell) for cell in range(7)])


class FlatRunTest(Case):

    def runs(self, code, choices, outcome, values=(), used=0, mass=ONE, width=0, results=ALL):
        flat = (CELLS, tuple(code), results)
        self.same(self.pure(run_flat, flat, choices), (outcome, values, used, mass, width))

    def changes(self, code, expected, choices=(), mass=ONE):
        """The run finishes, and these cells have other values than in the beginning."""
        values = [expected.get(cell, kind == "int" and 0) for cell, kind in enumerate(CELLS)]
        self.runs(code, list(choices), "finished", tuple(values), len(choices), mass)

    def test_in_the_beginning(self):
        self.changes([], {})
        self.runs([], [], "finished", (), results=())
        self.same(run_flat((("bool", "int"), (), (("cell", 1), ("cell", 0))), []),
                  ("finished", (0, False), 0, ONE, 0))
        self.same(run_flat(((), (), (N[5],)), [4]), ("finished", (5,), 0, ONE, 0))

    def test_a_guard_that_is_false(self):
        for action in (*ACTIONS, *DRAWS):
            self.changes([(5, *action)], {})
            self.changes([(-1, "split", 5, 6, FALSE), (5, *action)], {6: True})
            self.changes([(-1, "split", 5, 6, TRUE), (6, *action)], {5: True})

    def test_a_guard_that_holds(self):
        for guard, before in ((-1, []), (5, [(-1, "set", 5, TRUE)])):
            for action in ACTIONS:
                outcome = {"halt": "exhausted", "observe": "rejected"}.get(action[0], "faulted")
                if action == ("observe", BAD_TRUTH):
                    outcome = "faulted"
                self.runs([*before, (guard, *action)], [0, 0], outcome)
            for action in DRAWS:
                width = {"uniform": 5, "pick": 1}.get(action[0], 2)
                self.runs([*before, (guard, *action)], [], "starved", (), 0, ONE, width)
                self.runs([*before, (guard, *action)], [width], "stray", (), 0, ONE, width)

    def test_a_guard_that_changes(self):
        self.changes([(-1, "set", 5, TRUE), (5, "set", 5, FALSE), (5, "fail")], {})
        self.changes([(-1, "set", 5, TRUE), (5, "set", 0, N[3]), (-1, "set", 5, FALSE),
                      (5, "set", 0, N[4])], {0: 3})

    def test_set(self):
        self.changes([(-1, "set", 0, ("neg", N[4])), (-1, "set", 1, ("lt", ("cell", 0), N[0])),
                      (-1, "set", 4, ("add", ("cell", 0), N[1]))], {0: -4, 1: True, 4: -3})

    def test_store(self):
        for index in (0, 1):
            self.changes([(-1, "store", 2, 2, N[index], N[9])], {2 + index: 9})
        self.changes([(-1, "store", 4, 1, N[0], N[9])], {4: 9})
        self.changes([(-1, "set", 0, N[1]), (-1, "store", 2, 2, ("cell", 0), ("cell", 0)),
                      (-1, "store", 2, 2, N[0], ("add", ("at", 2, 2, ("cell", 0)), N[1]))],
                     {0: 1, 2: 2, 3: 1})
        for base, size, index in ((2, 2, ("neg", N[1])), (2, 2, N[2]), (4, 1, N[1]),
                                  (4, 1, ("neg", N[1])), (2, 3, N[3]), (3, 1, ("neg", N[1]))):
            self.runs([(-1, "store", base, size, index, N[9])], [], "faulted")

    def test_at(self):
        before = [(-1, "set", cell, N[cell]) for cell in (0, 2, 3, 4)]
        for index, value in ((0, 2), (2, 4)):
            self.runs([*before, (-1, "set", 0, ("at", 2, 3, N[index]))], [], "finished", (value,),
                      results=(("cell", 0),))
        for index in (("neg", N[1]), N[3]):
            self.runs([*before, (-1, "set", 0, ("at", 2, 3, index))], [], "faulted")

    def test_draws(self):
        self.changes([(-1, "flip", 1, N[1], N[3])], {1: True}, [0], (1, 3))
        self.changes([(-1, "flip", 1, N[1], N[3])], {}, [1], (2, 3))
        self.changes([(-1, "flip", 1, N[0], N[3])], {1: True}, [0], NONE)
        self.changes([(-1, "uniform", 0, ("neg", N[1]), N[1])], {0: 1}, [2], (1, 3))
        self.changes([(-1, "uniform", 0, N[1], N[64])], {0: 64}, [63], (1, 64))
        self.runs([(-1, "uniform", 0, N[0], N[64])], [0], "faulted")
        pick = (-1, "pick", 0, ((N[7], N[1]), (BAD, N[2]), (("cell", 2), N[0])))
        self.changes([pick], {0: 7}, [0], (1, 3))
        self.changes([(-1, "set", 2, N[8]), pick], {0: 8, 2: 8}, [2], NONE)
        self.runs([pick], [1], "faulted", (), 1, (2, 3))
        self.changes([(-1, "pick", 1, ((FALSE, N[1]), (TRUE, N[1])))], {1: True}, [1], (1, 2))
        self.changes([(-1, "weigh", N[1], N[3])], {}, [0], (1, 3))
        self.runs([(-1, "weigh", N[1], N[3]), (-1, "fail")], [1], "rejected", (), 1, (2, 3))

    def test_a_draw_writes_its_own_operands(self):
        code = [(-1, "set", 0, N[2]), (-1, "uniform", 0, ("cell", 0), ("add", ("cell", 0), N[3]))]
        self.changes(code, {0: 5}, [3], (1, 4))
        self.changes([*code, (-1, "pick", 0, ((("cell", 0), ("cell", 0)), (N[1], N[1])))], {0: 4},
                     [2, 0], (1, 5))

    def test_several_draws(self):
        code = [(-1, "flip", 1, N[1], N[4]), (1, "uniform", 0, N[2], N[4]), (-1, "weigh", N[2], N[3])]
        self.runs(code, [], "starved", (), 0, ONE, 2)
        self.runs(code, [0], "starved", (), 1, (1, 4), 3)
        self.runs(code, [0, 3], "stray", (), 1, (1, 4), 3)
        self.runs(code, [0, 2], "starved", (), 2, (1, 12), 2)
        self.changes(code, {0: 4, 1: True}, [0, 2, 0], (1, 18))
        self.runs(code, [1, 1], "rejected", (), 2, (1, 4))
        self.runs(code, [1, 2], "stray", (), 1, (3, 4), 2)
        self.runs(code, [1, 1, 5], "rejected", (), 2, (1, 4))

    def test_checks(self):
        self.changes([(-1, "observe", TRUE), (-1, "assert", ("eq", ("cell", 0), N[0]))], {})
        self.runs([(-1, "observe", ("cell", 1)), (-1, "fail")], [], "rejected")
        self.runs([(-1, "assert", ("cell", 1)), (-1, "observe", FALSE)], [], "faulted")
        self.runs([(-1, "halt"), (-1, "fail")], [], "exhausted")

    def test_split(self):
        self.changes([(-1, "split", 1, 5, ("eq", ("cell", 0), N[0]))], {1: True})
        self.changes([(-1, "split", 1, 5, ("ne", ("cell", 0), N[0]))], {5: True})
        self.changes([(-1, "split", 6, 5, TRUE), (5, "fail"), (6, "set", 0, N[1])], {6: True, 0: 1})
        self.changes([(-1, "set", 6, TRUE), (6, "split", 6, 5, ("not", ("cell", 6)))], {5: True})
        # The cells keep their values if the guard does not hold.
        self.changes([(-1, "split", 1, 5, TRUE), (6, "split", 5, 1, TRUE)], {1: True})

    def test_results(self):
        self.runs([(-1, "set", 2, N[6])], [], "finished", (6, 0, False, 12),
                  results=(("at", 2, 2, N[0]), ("cell", 3), ("cell", 1),
                           ("mul", ("cell", 2), N[2])))
        self.runs([(-1, "flip", 1, N[1], N[3])], [0], "faulted", (), 1, (1, 3),
                  results=(("cell", 0), BAD))
        self.runs([(-1, "observe", FALSE)], [], "rejected", results=(BAD,))

    def test_random(self):
        outcomes = {}
        for flat, choices in flat_programs(21, 3000, 12):
            expected = run_flat_program(flat, choices)
            self.same(run_flat(flat, choices), expected, (flat, choices))
            outcomes[expected[0]] = outcomes.get(expected[0], 0) + 1
        self.assertEqual(len(outcomes), 6)
        self.assertTrue(min(outcomes.values()) > 50, outcomes)


class FlatPathsTest(Case):

    def test_generators(self):
        flat = (("bool",), ((-1, "flip", 0, N[1], N[2]),) * 60, (("cell", 0),))
        self.assertTrue(inspect.isgeneratorfunction(flat_paths))
        found = flat_paths(flat)
        self.same(soon(next, found), (0,) * 60)
        self.same(soon(next, found), (0,) * 59 + (1,))
        self.same(soon(next, found), (0,) * 58 + (1, 0))

    def test_paths(self):
        code = ((-1, "flip", 1, N[0], N[4]), (1, "uniform", 0, N[2], N[4]),
                (-1, "split", 5, 6, ("eq", ("cell", 0), N[3])), (5, "halt"),
                (1, "weigh", N[1], N[1]))
        self.same(list(flat_paths((CELLS, code, ()))),
                  [(0, 0, 0), (0, 0, 1), (0, 1), (0, 2, 0), (0, 2, 1), (1,)])
        self.same(list(flat_paths((CELLS, (), (BAD,)))), [()])
        self.same(list(flat_paths((CELLS, ((1, "flip", 1, N[1], N[2]),), ()))), [()])

    def test_states_do_not_leak(self):
        code = ((-1, "flip", 1, N[1], N[2]), (1, "set", 0, ("add", ("cell", 0), N[1]))) * 2 + (
            (-1, "uniform", 2, N[0], ("cell", 0)),)
        self.same(list(flat_paths((CELLS, code, ()))), [
            (0, 0, 0), (0, 0, 1), (0, 0, 2), (0, 1, 0), (0, 1, 1), (1, 0, 0), (1, 0, 1), (1, 1, 0)])

    def test_answer(self):
        code = ((-1, "uniform", 0, N[0], N[9]), (-1, "split", 1, 5, ("lt", ("cell", 0), N[3])),
                (1, "assert", ("eq", ("cell", 0), N[0])), (-1, "observe", ("ne", ("cell", 0), N[9])),
                (-1, "split", 5, 6, ("eq", ("cell", 0), N[8])), (5, "halt"), (1, "flip", 6, N[0], N[1]))
        results = (("mod", ("cell", 0), N[2]), ("cell", 6))
        self.same(self.pure(weigh_flat, (CELLS, code, results)), (
            (((0, False), (1, 10)), ((0, True), (1, 5)), ((1, True), (3, 10))), (1, 10), (1, 10),
            (1, 5)))
        self.same(weigh_flat((CELLS, code[:1], ())), ((((), ONE),), NONE, NONE, NONE))
        self.same(weigh_flat((CELLS, ((-1, "halt"),), ())), ((), NONE, ONE, NONE))
        self.same(weigh_flat((CELLS, ((-1, "flip", 1, N[2], N[2]),), (("cell", 1),))),
                  ((((True,), ONE),), NONE, NONE, NONE))

    def test_random(self):
        walked = 0
        for flat, _ in flat_programs(22, 2000, 12):
            found = all_paths(run_flat_program, flat, 200)
            if found is None:
                continue
            walked += len(found)
            self.same(list(flat_paths(flat)), [choices for choices, _ in found], flat)
            answer = weigh_flat(flat)
            self.same(answer, answer_of_paths(found), flat)
            self.assertEqual(total_of(answer), 1)
        self.assertTrue(walked > 3000, walked)


if __name__ == "__main__":
    unittest.main()
