"""Questions about a program."""

from odds.answers import answer_of
from odds.counting import count, likeliest, slope
from odds.engine import sound_program
from odds.errors import NoEvidence, NoSuchCoin
from odds.machine import run
from odds.outcomes import build_outcomes, choices_under
from odds.printer import show_program
from odds.ratios import ZERO
from odds.splits import where
from odds.unroll import unroll


class Query:
    """Answers questions about one program text."""

    def __init__(self, text):
        self._program = sound_program(text)
        self._flat = unroll(self._program)
        self._outcomes = build_outcomes(self._flat)

    def answer(self):
        """Return the answer of the program."""
        return answer_of(self._outcomes)

    def program(self):
        """Return the program."""
        return self._program

    def source(self):
        """Return the text that shows the program."""
        return show_program(self._program)

    def chances(self):
        """Return the list of the chances of all coins."""
        return list(self._outcomes.chances)

    def best_run(self, values):
        """Return the choices of the likeliest run with these results, and its mass."""
        outcomes = self._outcomes
        a = where(outcomes.finished, values)
        if count(outcomes.store, a, outcomes.chances) == ZERO:
            raise NoEvidence("the results have no mass")
        bits, _ = likeliest(outcomes.store, a, outcomes.chances)
        choices = choices_under(self._flat, outcomes, bits)
        _, _, _, mass, _ = run(self._program, choices)
        return (choices, mass)

    def influence(self, values, level):
        """Return the slope of the mass of these results at the level of a coin."""
        outcomes = self._outcomes
        if level < 0 or level >= len(outcomes.chances):
            raise NoSuchCoin("the program has no such coin")
        a = where(outcomes.finished, values)
        return slope(outcomes.store, a, outcomes.chances, level)
