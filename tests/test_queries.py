"""Point 10.5: questions about a program."""

import unittest
from fractions import Fraction

from odds.engine import infer
from odds.errors import InvalidToken, NoEvidence, NoSuchCoin
from odds.machine import run
from odds.parser import parse_program
from odds.paths import weigh_paths
from odds.printer import show_program
from odds.queries import Query
from odds.unroll import unroll
from tests.diagrams import mass_of
from tests.reference import pair_of, run_program
from tests.samples import sound_programs
from tests.support import EXAMPLE, EXAMPLE_PROGRAM, Case, soon
from tests.worlds import likeliest_world, worlds_of

NONE, ONE = (0, 1), (1, 1)


class QueryTest(Case):

    def test_example(self):
        q = Query("int x; main 0 { x ~ pick(1 : 1, 2 : 2, 1 : 3); } return x;")
        self.same(q.best_run((1,)), ([2], (1, 2)))
        self.same(q.best_run((2,)), ([1], (1, 3)))
        self.same(q.chances(), [(1, 6), (2, 5)])
        self.same(q.answer(), ((((1,), (2, 3)), ((2,), (1, 3))), NONE, NONE, NONE))
        self.same([q.influence((2,), level) for level in (0, 1)], [(-2, 5), (5, 6)])
        self.same([q.influence((1,), level) for level in (0, 1)], [(2, 5), (-5, 6)])
        self.same(q.influence((9,), 1), NONE)

    def test_program_and_source(self):
        for text in (EXAMPLE, " int x;main 0{x:=(1) ;# note\n}return x ;", "main 3 { } return;"):
            q = Query(text)
            self.same(q.program(), parse_program(text))
            self.same(q.source(), show_program(parse_program(text)))
            self.same(Query(q.source()).program(), q.program())
            self.same(q.answer(), infer(text))
        self.same(Query(EXAMPLE).program(), EXAMPLE_PROGRAM)
        self.same(Query(EXAMPLE).source(), EXAMPLE)

    def test_chances(self):
        q = Query("bool b; int x; main 0 { b ~ flip(1, 3); x ~ uniform(1, 3); } return;")
        # Without thinning: none of these draws matters for the results.
        self.same(q.chances(), [(1, 3), (1, 3), (1, 2)])
        q.chances().append(ONE)
        q.chances()[0] = ONE
        self.same(q.chances(), [(1, 3), (1, 3), (1, 2)])
        self.same(q.best_run(()), ([1, 2], (2, 9)))
        self.same(Query("main 0 { } return;").chances(), [])

    def test_errors(self):
        self.refuses_at(InvalidToken, 0, Query, "?")

    def test_best_run_of_several(self):
        """The likeliest assignment counts, not the likeliest run."""
        text = ("bool a; int x; main 0 { a ~ flip(2, 5); if a { x ~ uniform(1, 1); } "
                "else { x ~ uniform(1, 3); } } return x = 1;")
        q = Query(text)
        self.same(q.chances(), [(2, 5), (1, 3), (1, 2)])
        self.same(q.best_run((True,)), ([0, 0], (2, 5)))
        # Two assignments are as likely as one another: the lesser one takes the last alternative.
        self.same(q.best_run((False,)), ([1, 2], (1, 5)))
        text = ("bool a; int x; main 0 { a ~ flip(1, 2); if a { x ~ uniform(1, 2); } "
                "else { x ~ pick(1 : 9, 2 : 1); } } return x = 1;")
        # Both runs have an assignment of the mass 9/40, though they are not equally likely.
        self.same(Query(text).best_run((True,)), ([1, 0], (9, 20)))

    def test_the_mass_of_the_run(self):
        """It need not be that of the assignment, which has coins that the run does not need."""
        text = "bool a; bool b; main 0 { a ~ flip(1, 3); if a { b ~ flip(1, 2); } } return a;"
        q = Query(text)
        self.same(q.best_run((False,)), ([1], (2, 3)))
        self.same(q.best_run((True,)), ([0, 1], (1, 6)))

    def test_equal_masses(self):
        q = Query("bool a; bool b; main 0 { a ~ flip(1, 2); b ~ flip(1, 2); } return a != b;")
        # The least assignment has the first coin False, and so the second alternative.
        self.same(q.best_run((True,)), ([1, 0], (1, 4)))
        self.same(q.best_run((False,)), ([1, 1], (1, 4)))

    def test_results_without_mass(self):
        q = Query("bool a; bool b; main 0 { a ~ flip(0, 3); b ~ flip(1, 2); observe a or b; } "
                  "return a, b;")
        for values in ((True, True), (True, False), (False, False)):
            self.refuses(NoEvidence, q.best_run, values)
        self.same(q.best_run((False, True)), ([1, 0], (1, 2)))
        # The slope of results without mass: as if the coin were surely True.
        self.same(q.influence((True, True), 0), (1, 2))
        self.same(q.influence((True, True), 1), NONE)
        self.same(q.influence((False, False), 0), NONE)
        for text in ("main 0 { fail; } return;", "main 0 { observe false; } return;"):
            self.refuses(NoEvidence, Query(text).best_run, ())

    def test_no_such_coin(self):
        for text, coins, results in (
                ("int x; main 0 { x ~ uniform(1, 3); } return x;", 2, ((1,), (3,), (7,))),
                ("main 0 { } return;", 0, ((),)),
                ("main 0 { weigh(1, 2); fail; } return;", 1, ((),))):
            q = Query(text)
            for values in results:
                for level in (-1, -coins - 1, coins, coins + 1, 10 ** 12):
                    self.refuses(NoSuchCoin, q.influence, values, level)
                for level in range(coins):
                    self.same(q.influence(values, level)[1] > 0, True)

    def test_results_that_cannot_be(self):
        q = Query("int x; main 0 { x ~ uniform(1, 3); observe x < 3; } return x;")
        for values in ((3,), (0,), (-5,)):
            self.refuses(NoEvidence, q.best_run, values)
            self.same([q.influence(values, level) for level in (0, 1)], [NONE, NONE])

    def test_random(self):
        runs = 0
        for program, _ in sound_programs(47, 700):
            found = worlds_of(unroll(program), 7)
            if found is None or not found[0]:
                continue
            text = show_program(program)
            q = Query(text)
            chances, worlds = found
            self.same(q.chances(), chances)
            self.same(q.answer(), weigh_paths(program))
            for values in {world.ended[1] for world in worlds if world.ended[0] == "finished"}:
                self.check_run(q, values, chances, worlds)
                runs += 1
                for level in range(len(chances)):
                    self.check_influence(q, values, level, chances, worlds)
        self.assertTrue(runs > 100, runs)

    def check_run(self, q, values, chances, worlds):
        world, mass = likeliest_world(worlds, chances, ("finished", values))
        if mass == 0:
            self.refuses(NoEvidence, q.best_run, values)
        else:
            choices, found = q.best_run(values)
            self.same(choices, world.choices)
            outcome, results, used, mass, _ = run_program(q.program(), choices)
            self.same((outcome, results, used, mass), ("finished", values, len(choices), found))
            self.same(run(q.program(), choices), ("finished", values, len(choices), found, 0))

    def check_influence(self, q, values, level, chances, worlds):
        """The mass if the coin is surely True, minus that if it is surely False."""
        slope = Fraction(0)
        for chance, sign in ((ONE, 1), (NONE, -1)):
            sure = chances[:level] + [chance] + chances[level + 1:]
            slope += sign * sum([mass_of(world.bits, sure) for world in worlds
                                 if world.ended == ("finished", values)])
        self.same(q.influence(values, level), pair_of(slope))

    def test_many_coins(self):
        text = "int x; bool b; main 0 { repeat 90 { b ~ flip(1, 3); if b { x := x + 1; } } } return x < 1;"
        q = soon(Query, text, seconds=60)
        self.same(soon(q.best_run, (True,)), ([1] * 90, (2 ** 90, 3 ** 90)))
        self.same(soon(q.best_run, (False,)), ([1] * 89 + [0], (2 ** 89, 3 ** 90)))
        self.same(soon(q.influence, (True,), 45), (-2 ** 89, 3 ** 89))


if __name__ == "__main__":
    unittest.main()
