"""All paths of a program, and what they add up to."""

from odds.machine import machine_of
from odds.processes import all_runs, weigh_all


def paths(program):
    """Yield all paths of a sound program, in ascending order."""
    start = machine_of(program)
    for path, _, _, _ in all_runs(start):
        yield path


def count_paths(program):
    """Return the number of paths of a sound program."""
    many = 0
    for _ in paths(program):
        many += 1
    return many


def weigh_paths(program):
    """Return the answer of a sound program."""
    return weigh_all(machine_of(program))
