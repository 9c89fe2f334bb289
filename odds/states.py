"""Answers of flat programs, by the masses of all states from instruction to instruction."""

from odds.draws import chance
from odds.flatrun import FlatMachine, initial_state
from odds.processes import Tally
from odds.ratios import ONE, ZERO, plus, times


def carry(flat):
    """Return the answer of a flat program."""
    cells, code, results = flat
    tally = Tally()
    states = {tuple(initial_state(cells)): ONE}
    for instruction in code:
        states = _carried(instruction, states, tally)
    for state, mass in states.items():
        machine = FlatMachine((), results, state, 0)
        machine.go()
        tally.enter(machine.outcome, machine.results, mass)
    return tally.answer()


def _carried(instruction, states, tally):
    """Return the masses of the states behind an instruction; the tally gets what ends there."""
    carried = {}
    for state, mass in states.items():
        for outcome, after, share in _steps(instruction, state):
            part = times(mass, share)
            if outcome == "finished":
                carried[after] = plus(carried.get(after, ZERO), part)
            else:
                tally.enter(outcome, (), part)
    return carried


def _steps(instruction, state):
    """Return the list of what an instruction makes of a state, with the chances.

    The instruction is a flat program of its own: where that finishes, the run goes on.
    """
    guard = instruction[0]
    if guard != -1 and not state[guard]:
        return [("finished", state, ONE)]
    machine = FlatMachine((instruction,), (), list(state), 0)
    machine.go()
    if machine.outcome:
        return [(machine.outcome, tuple(machine.memory), ONE)]
    steps = []
    for k, weight in enumerate(machine.weights):
        if weight > 0:
            branch = machine.fork()
            branch.choose(k)
            branch.go()
            steps.append((branch.outcome, tuple(branch.memory), chance(machine.weights, k)))
    return steps
