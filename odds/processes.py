"""Runs that go on from draw to draw, and all the runs that may come of one."""

from odds.draws import chance, draw_parameters, draw_weights, is_draw
from odds.errors import Fault
from odds.ratios import ONE, ZERO, plus, times
from odds.tables import tabulate
from odds.values import evaluate


class Process:
    """A run, as far as it has got.

    The classes below this one have two more methods: `step()` executes the next statement, and
    `fork()` returns another process that has got as far, for a run that has not ended.
    """

    def __init__(self, memory, trees):
        # The values of all variables or cells, and the expressions of the results.
        self.memory = memory
        self.trees = trees
        # How the run has ended, the empty text if it has not.
        self.outcome = ""
        self.results = ()
        # The draw at which the run waits, and its weights; both are empty if there is none.
        self.draw = ()
        self.weights = ()

    def go(self):
        """Go on to the next draw or to the end of the run."""
        try:
            while not self.outcome and not self.weights:
                self.step()
        except Fault:
            self.outcome = "faulted"

    def choose(self, k):
        """Take an alternative of the draw at which the run waits."""
        self.weights = ()
        try:
            self._take_alternative(k)
        except Fault:
            self.outcome = "faulted"

    def follow(self, choices):
        """Go on with the given choices, and return the tuple that describes the run."""
        used = 0
        mass = ONE
        self.go()
        while not self.outcome:
            width = len(self.weights)
            if used == len(choices):
                return ("starved", (), used, mass, width)
            k = choices[used]
            if k >= width:
                return ("stray", (), used, mass, width)
            used += 1
            mass = times(mass, chance(self.weights, k))
            self.choose(k)
            self.go()
        return (self.outcome, self.results, used, mass, 0)

    def execute(self, statement):
        """Execute a statement without blocks, or begin to wait if it is a draw."""
        tag = statement[0]
        if tag == "set":
            self.memory[statement[1]] = evaluate(statement[2], self.memory)
        elif is_draw(statement):
            values = tuple([evaluate(tree, self.memory) for tree in draw_parameters(statement)])
            self.wait_at(statement, draw_weights(statement, values))
        elif tag == "observe":
            if not evaluate(statement[1], self.memory):
                self.outcome = "rejected"
        elif tag == "fail" or not evaluate(statement[1], self.memory):
            raise Fault("the program fails, or an assertion does not hold")

    def wait_at(self, draw, weights):
        """Wait until an alternative of a draw is chosen."""
        self.draw = draw
        self.weights = weights

    def finish(self):
        """Evaluate the results and end the run."""
        self.results = tuple([evaluate(tree, self.memory) for tree in self.trees])
        self.outcome = "finished"

    def _take_alternative(self, k):
        tag = self.draw[0]
        if tag == "weigh":
            self.outcome = "rejected" if k == 1 else ""
        elif tag == "flip":
            self.memory[self.draw[1]] = k == 0
        elif tag == "uniform":
            self.memory[self.draw[1]] = evaluate(self.draw[2], self.memory) + k
        else:
            self.memory[self.draw[1]] = evaluate(self.draw[2][k][0], self.memory)


def all_runs(start):
    """Yield the path, outcome, results and mass of each run that a process may become.

    The paths are ascending.
    """
    first = start.fork()
    first.go()
    # Each process that waits at a draw stands here with the next alternative to take.
    waiting = [((), ONE, first, 0)]
    while waiting:
        path, mass, process, k = waiting.pop()
        if process.outcome:
            yield (path, process.outcome, process.results, mass)
        else:
            if k + 1 < len(process.weights):
                waiting.append((path, mass, process, k + 1))
            branch = process.fork()
            branch.choose(k)
            branch.go()
            waiting.append(((*path, k), times(mass, chance(process.weights, k)), branch, 0))


def weigh_all(start):
    """Return the answer of all runs that a process may become."""
    tally = Tally()
    for _, outcome, results, mass in all_runs(start):
        tally.enter(outcome, results, mass)
    return tally.answer()


class Tally:
    """Adds up the masses of runs that have ended."""

    def __init__(self):
        self._masses = {}
        self._lost = {"rejected": ZERO, "exhausted": ZERO, "faulted": ZERO}

    def enter(self, outcome, results, mass):
        """Add the mass of runs with an outcome, and with results if they are finished."""
        if outcome == "finished":
            self._masses[results] = plus(self._masses.get(results, ZERO), mass)
        else:
            self._lost[outcome] = plus(self._lost[outcome], mass)

    def answer(self):
        """Return the answer that the masses make."""
        table = tuple(tabulate(list(self._masses.items())))
        return (table, self._lost["rejected"], self._lost["exhausted"], self._lost["faulted"])
