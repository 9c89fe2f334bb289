"""Runs of flat programs, and all of their paths."""

from odds.processes import Process, all_runs, weigh_all
from odds.values import checked_index, evaluate


class FlatMachine(Process):
    """A run of a flat program."""

    def __init__(self, code, trees, state, at):
        super().__init__(state, trees)
        self._code = code
        # The place of the next instruction.
        self._at = at

    def fork(self):
        """Return another machine that has got as far, for a run that has not ended."""
        branch = FlatMachine(self._code, self.trees, list(self.memory), self._at)
        branch.wait_at(self.draw, self.weights)
        return branch

    def step(self):
        """Execute the next instruction, or finish if there is none."""
        if self._at == len(self._code):
            self.finish()
            return
        instruction = self._code[self._at]
        self._at += 1
        guard = instruction[0]
        if guard == -1 or self.memory[guard]:
            self._execute_flat(instruction[1:])

    def _execute_flat(self, action):
        """Execute an instruction without its guard."""
        tag = action[0]
        if tag == "store":
            _, base, size, index, tree = action
            at = checked_index(evaluate(index, self.memory), size)
            self.memory[base + at] = evaluate(tree, self.memory)
        elif tag == "split":
            _, yes, no, tree = action
            value = evaluate(tree, self.memory)
            self.memory[yes] = value
            self.memory[no] = not value
        elif tag == "halt":
            self.outcome = "exhausted"
        else:
            self.execute(action)


def initial_state(cells):
    """Return the first values of cells of the given kinds."""
    return [False if kind == "bool" else 0 for kind in cells]


def flat_machine_of(flat):
    """Return a machine at the beginning of a flat program."""
    cells, code, results = flat
    return FlatMachine(code, results, initial_state(cells), 0)


def run_flat(flat, choices):
    """Execute a flat program with the given choices, and return what comes of it."""
    return flat_machine_of(flat).follow(choices)


def flat_paths(flat):
    """Yield all paths of a flat program, in ascending order."""
    start = flat_machine_of(flat)
    for path, _, _, _ in all_runs(start):
        yield path


def weigh_flat(flat):
    """Return the answer of a flat program."""
    return weigh_all(flat_machine_of(flat))
