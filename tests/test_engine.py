"""Points 10.1, 10.2 and 10.4: the answers of programs, by diagrams and by states."""

import unittest
from fractions import Fraction
from itertools import product
from math import comb
from unittest import mock

from odds import engine
from odds.answers import answer_of
from odds.engine import infer, infer_by_states, infer_program
from odds.errors import (BadSize, InvalidSyntax, InvalidToken, KindMismatch, NameClash, TooDeep,
                         TooLarge, UnknownName, WrongCount)
from odds.folding import propagate
from odds.outcomes import build_outcomes
from odds.parser import parse_program
from odds.paths import weigh_paths
from odds.printer import show_program
from odds.queries import Query
from odds.slicing import slice_flat
from odds.states import carry
from odds.unroll import unroll
from tests.reference import all_paths, answer_of_paths, pair_of, run_program, total_of
from tests.samples import sound_programs
from tests.support import Case, few_calls, soon

NONE, ONE = (0, 1), (1, 1)

PROGRAMS = (
    "main 0 { } return;",
    "main 0 { skip; } return 1 + 1, true;",
    "main 0 { fail; } return;",
    "int x; bool b; array t[2]; main 0 { } return x, b, t[0], t[1];",
    "int x; main 0 { x := 1 div x; } return x;",
    "int x; main 0 { x ~ uniform(1, 6); observe x != 3; assert x < 6; } return x mod 2 = 0;",
    "bool a; bool b; main 0 { a ~ flip(0, 1); b ~ flip(1, 1); if a { fail; } } return a, b;",
    "int x; main 0 { x ~ pick(5 : 0, 1 div 0 : 2, -3 : 1); } return x;",
    "int x; main 0 { x ~ pick(1 : x); } return x;",
    "int x; main 0 { x ~ uniform(0, 2); weigh(x, 2); weigh(1, x); } return x;",
    "int x; main 0 { x ~ uniform(0, 3); x ~ uniform(x, 2); } return x;",
    "int x; bool b; main 0 { x ~ uniform(1, 4); b ~ flip(2, x); } return x, b;",
    "int x; bool b; main 0 { while not b max 3 { b ~ flip(1, 2); x := x + 1; } } return x;",
    "bool b; main 0 { while true max 2 { b ~ flip(1, 3); } } return b;",
    "bool b; main 0 { while b max 0 { fail; } } return b;",
    "int x; int k; main 0 { for k from 2 to 4 { x := x + k; k := 0; } } return x, k;",
    "int x; main 0 { for x from 4 to 2 { fail; } repeat 0 { fail; } } return x;",
    "array t[3]; int k; main 0 { k ~ uniform(-1, 3); t[k] := k; } return t[0], t[2];",
    "array t[2]; int k; main 0 { repeat 2 { k ~ uniform(0, 1); t[k] := t[k] + 1; } } "
    "return t[t[0] mod 2];",
    "int x; proc f(int a) int { return a * 2; } main 0 { call f(1 div 0) to x; } return x;",
    "int x; proc f(int a) int { x := x + a; return x; } main 1 { call f(3) to x; "
    "call f(x) to x; } return x;",
    "int x; bool b; proc f(int n) int { int r; b ~ flip(1, 3); if b { call f(n + 1) to r; } "
    "else { r := n; } return r; } main 5 { call f(0) to x; } return x, b;",
    "int x; bool b; main 0 { b ~ flip(1, 3); if b { x ~ uniform(1, 2); } else { x ~ uniform(4, 6); "
    "observe x != 5; } } return x, b;",
    "int x; int y; main 0 { x ~ uniform(0, 3); y ~ uniform(x, 3); observe x + y = 4; } return x;",
    "bool a; bool b; main 0 { a ~ flip(1, 2); b ~ flip(1, 2); } "
    "return a and (1 div 0 = 1) or b, (if a then b else a);",
)

# Programs whose procedures call each other, themselves, and themselves twice.
MUTUAL = """
int x; bool b; bool c;
proc even(int n) bool {
  bool r;
  r := true;
  c ~ flip(1, 4);
  if 0 < n and not c { call odd(n - 1) to r; }
  return r;
}
proc odd(int n) bool {
  bool r;
  if 0 < n { call even(n - 1) to r; }
  return r;
}
main FUEL { x ~ uniform(0, 3); call even(x) to b; observe b or x = 1; } return x, b;
"""
SELF = """
int x; bool b;
proc f(int n) int {
  int r;
  b ~ flip(1, 3);
  r := n;
  if not b { call f(n + 1) to r; }
  return r - 1;
}
main FUEL { call f(3) to x; call f(x) to x; } return x;
"""
BRANCHING = """
int x; bool b;
proc f() int {
  int one; int other;
  b ~ flip(3, 4);
  if not b { call f() to one; call f() to other; }
  return one + other + 1;
}
main FUEL { call f() to x; } return x;
"""

# What makes a program wrong, by the error of the first rule that it breaks, in the order of 10.1.
WRONG = (
    (InvalidToken, "end", " ?"),
    (TooDeep, "body", "x := " + "(" * 25 + "1" + ")" * 25 + "; "),
    (InvalidSyntax, "body", "skip "),
    (TooDeep, "body", "x := " + " + ".join(["1"] * 25) + "; "),
    (NameClash, "declarations", "bool x; "),
    (BadSize, "declarations", "array t[21]; "),
    (UnknownName, "body", "z := 1; "),
    (WrongCount, "body", "call f(1, 2) to x; "),
    (KindMismatch, "body", "b := 1; "),
    (TooLarge, "body", "repeat 100 { skip; fail; fail; fail; fail; fail; } "),
)


def wrong_text(chosen):
    """A program text with these of the things that make it wrong."""
    parts = {"declarations": "", "body": "", "end": ""}
    for (_, place, text), is_chosen in zip(WRONG, chosen):
        if is_chosen:
            parts[place] += text
    return (f"int x; bool b; {parts['declarations']}proc f(int a) int {{ return a; }} "
            f"main 1 {{ {parts['body']} }} return x;{parts['end']}")


class InferTest(Case):

    def all_agree(self, text, expected=None):
        """Every way to the answer of a program text leads to the same one."""
        program = parse_program(text)
        answer = weigh_paths(program)
        if expected is not None:
            self.same(answer, expected)
        for found in (infer(text), infer(text, thinning=True), infer(text, thinning=False),
                      infer_by_states(text), infer_program(program),
                      infer_program(program, thinning=False), Query(text).answer(),
                      infer(show_program(program))):
            self.same(found, answer, text)
        self.assertEqual(total_of(answer), 1)
        return answer

    def test_examples(self):
        self.all_agree("bool a; bool b; main 0 { a ~ flip(2, 3); b ~ flip(1, 2); "
                       "observe a or b; } return a;",
                       ((((False,), (1, 6)), ((True,), (2, 3))), (1, 6), NONE, NONE))
        self.all_agree("int x; main 0 { x ~ uniform(0, 2); x := 6 div x; } return x;",
                       ((((3,), (1, 3)), ((6,), (1, 3))), NONE, NONE, (1, 3)))

    def test_programs(self):
        for text in PROGRAMS:
            self.all_agree(text)

    def test_kinds_of_values(self):
        self.all_agree("int x; bool b; main 0 { b ~ flip(1, 2); x := (if b then 1 else 0); } "
                       "return b, x, not b, -x;",
                       ((((False, 0, True, 0), (1, 2)), ((True, 1, False, -1), (1, 2))),
                        NONE, NONE, NONE))

    def test_procedures_and_fuel(self):
        for text in (MUTUAL, SELF, BRANCHING):
            answers = []
            for fuel in range(9):
                program = text.replace("FUEL", str(fuel))
                if text == BRANCHING and fuel > 3:
                    break
                answers.append(self.all_agree(program))
            self.same(answers[0][2], ONE)
            self.assertTrue(answers[1] != answers[2] != answers[3], text)

    def test_random(self):
        many = 0
        for number, (program, _) in enumerate(sound_programs(46, 500)):
            declarations, procedures, _, body, results = program
            program = (declarations, procedures, number % 9, body, results)
            try:
                unroll(program)
            except TooLarge:
                self.refuses(TooLarge, infer, show_program(program))
                continue
            found = all_paths(run_program, program, 120)
            if found is not None:
                many += 1
                answer = self.all_agree(show_program(program))
                self.same(answer, answer_of_paths(found), program)
        self.assertTrue(many > 300, many)

    def test_the_steps_keep_the_answer(self):
        for text in (MUTUAL, SELF):
            program = parse_program(text.replace("FUEL", "3"))
            flat = unroll(program)
            for step in (flat, propagate(flat), slice_flat(flat), slice_flat(propagate(flat))):
                self.same(answer_of(build_outcomes(step)), weigh_paths(program))
                self.same(carry(step), weigh_paths(program))

    def test_thinning(self):
        """Draws that do not matter need not be made: without thinning, they are."""
        text = "bool b; int x; main 0 { repeat 100 { b ~ flip(1, 3); } x := 1; } return x;"
        self.same(infer(text), ((((1,), ONE),), NONE, NONE, NONE))
        self.same(infer(text, thinning=False), infer(text))
        self.same(infer_by_states(text), infer(text))
        # There are too many states to carry, but not once the program is thinned.
        names = [f"x{k}" for k in range(30)]
        text = " ".join([f"int {name};" for name in names]) + " main 0 { "
        text += " ".join([f"{name} ~ uniform(1, 50);" for name in names]) + " } return x3 < 26;"
        self.same(soon(infer_by_states, text),
                  ((((False,), (1, 2)), ((True,), (1, 2))), NONE, NONE, NONE))
        self.same(soon(infer, text), soon(infer_by_states, text))

    def test_what_is_thinned(self):
        text = "bool b; main 0 { b ~ flip(1, 3); } return;"
        program = parse_program(text)
        for thins, call in (
                (1, lambda: infer(text)), (1, lambda: infer(text, thinning=True)),
                (0, lambda: infer(text, thinning=False)), (1, lambda: infer_program(program)),
                (1, lambda: infer_program(program, thinning=True)),
                (0, lambda: infer_program(program, thinning=False)),
                (1, lambda: infer_by_states(text)), (0, lambda: Query(text).answer())):
            with mock.patch.object(engine, "thin", wraps=engine.thin) as thin:
                call()
            self.same(thin.call_count, thins)

    def test_which_engine(self):
        text = "bool b; main 0 { b ~ flip(1, 3); } return b;"
        for diagrams, states, call in ((1, 0, infer), (0, 1, infer_by_states)):
            with mock.patch.object(engine, "carry", wraps=engine.carry) as carried, \
                    mock.patch.object(engine, "build_outcomes", wraps=build_outcomes) as built:
                call(text)
            self.same((built.call_count, carried.call_count), (diagrams, states))

    def test_the_argument_is_not_changed(self):
        program = parse_program(MUTUAL.replace("FUEL", "2"))
        self.pure(infer_program, program)

    def test_larger_programs(self):
        walk = ("int x; bool b; main 0 { repeat 60 { b ~ flip(1, 2); if b { x := x + 1; } "
                "else { x := x - 1; } } observe x = 0 or x = 2; } return x;")
        answer = soon(infer, walk, seconds=60)
        masses = [pair_of(Fraction(comb(60, k), 2 ** 60)) for k in (30, 31)]
        self.same(answer[0], (((0,), masses[0]), ((2,), masses[1])))
        nested = "main 0 { " + "repeat 100 { " * 23 + "}" * 23 + " } return;"
        self.same(soon(few_calls, infer, nested), ((((), ONE),), NONE, NONE, NONE))
        self.same(soon(few_calls, infer_by_states, nested), infer(nested))


class ErrorsTest(Case):

    def test_each_error_comes_ahead_of_those_behind_it(self):
        for chosen in product((False, True), repeat=len(WRONG)):
            errors = [error for (error, _, _), is_chosen in zip(WRONG, chosen) if is_chosen]
            if errors:
                text = wrong_text(chosen)
                for function in (infer, infer_by_states, Query):
                    self.refuses(errors[0], function, text)

    def test_a_right_text(self):
        text = wrong_text([False] * len(WRONG))
        for function in (infer, infer_by_states):
            self.same(function(text), ((((0,), ONE),), NONE, NONE, NONE))

    def test_without_thinning(self):
        for (error, _, _), at in zip(WRONG, range(len(WRONG))):
            text = wrong_text([k == at for k in range(len(WRONG))])
            self.refuses(error, lambda text: infer(text, thinning=False), text)

    def test_where_they_are(self):
        for function in (infer, infer_by_states, Query):
            self.refuses_at(InvalidToken, 5, function, "x := 0a")
            self.refuses_at(InvalidSyntax, 3, function, "main 0 {")
            self.refuses_at(InvalidSyntax, 0, function, "")

    def test_too_large(self):
        text = "main 0 { repeat 80 { repeat 5 { skip; weigh(1, 1); } } } return;"
        for function in (infer, infer_by_states):
            self.same(function(text), ((((), ONE),), NONE, NONE, NONE))
        text = text.replace("} } }", "} } weigh(1, 1); }")
        for function in (infer, infer_by_states, Query):
            self.refuses(TooLarge, function, text)
        program = parse_program(text)
        self.refuses(TooLarge, infer_program, program)
        self.refuses(TooLarge, lambda program: infer_program(program, thinning=False), program)


if __name__ == "__main__":
    unittest.main()
