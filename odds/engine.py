"""From the texts of programs to their answers."""

from odds.answers import answer_of
from odds.checks import check_program
from odds.outcomes import build_outcomes
from odds.parser import parse_program
from odds.slicing import thin
from odds.states import carry
from odds.unroll import unroll


def infer(text, *, thinning=True):
    """Return the answer of a program text."""
    return infer_program(sound_program(text), thinning=thinning)


def infer_program(program, *, thinning=True):
    """Return the answer of a sound program."""
    flat = unroll(program)
    if thinning:
        flat = thin(flat)
    return answer_of(build_outcomes(flat))


def infer_by_states(text):
    """Return the answer of a program text without the use of diagrams."""
    return carry(thin(unroll(sound_program(text))))


def sound_program(text):
    """Return the program of a text, which must be sound."""
    program = parse_program(text)
    check_program(program)
    return program
