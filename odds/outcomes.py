"""What becomes of flat programs, for all assignments of coins at once."""

from odds.coins import Coins
from odds.draws import draw_parameters, draw_weights, is_draw
from odds.errors import Fault
from odds.flatrun import initial_state
from odds.splits import domain, gather, narrow, value_under, where
from odds.splitting import split_expression, split_tuples
from odds.store import Store


class Outcomes:
    """The outcome of a flat program for each assignment of coins.

    `draws` has one pair for each time that coins were handed out, in this order: the function
    that is True where a run makes this draw, and the list of those of the alternatives.
    """

    def __init__(self, store, chances, finished, ended, draws):
        self.store = store
        self.chances = chances
        self.finished = finished
        self.rejected = ended["rejected"]
        self.exhausted = ended["exhausted"]
        self.faulted = ended["faulted"]
        self.draws = draws


class Execution:
    """A flat program that is executed for all assignments at once, as far as it has got."""

    def __init__(self, cells):
        self._store = Store()
        self._coins = Coins(self._store)
        # The split of each cell. Only its values where the run has not ended matter.
        self._state = [((value, 1),) for value in initial_state(cells)]
        # Where the run has not ended.
        self._running = 1
        self._ended = {"rejected": 0, "exhausted": 0, "faulted": 0}
        self._draws = []

    def perform(self, instruction):
        """Execute the next instruction."""
        guard = instruction[0]
        a = self._running
        if guard != -1:
            a = self._store.both(a, where(self._state[guard], True))
        action = instruction[1:]
        if a == 0:
            return
        if is_draw(action):
            self._draw(action, a)
        elif action[0] == "halt":
            self._end("exhausted", a)
        elif action[0] == "fail":
            self._end("faulted", a)
        elif action[0] == "store":
            self._write_item(action, a)
        else:
            self._use_value(action, a)

    def conclude(self, results):
        """Evaluate the results, and return what has become of the program."""
        finished, fault = split_tuples(self._store, results, self._state, self._running)
        self._end("faulted", fault)
        return Outcomes(self._store, self._coins.chances(), finished, self._ended, self._draws)

    def _end(self, outcome, a):
        """End the run where `a` is True."""
        self._ended[outcome] = self._store.either(self._ended[outcome], a)
        self._running = self._store.without(self._running, a)

    def _evaluate(self, tree, a):
        """Return the split of an expression where `a` is True; the run ends where it faults."""
        split, fault = split_expression(self._store, tree, self._state, a)
        self._end("faulted", fault)
        return split

    def _write(self, cell, split, a):
        """Give a cell the values of a split where `a` is True; it keeps its own elsewhere."""
        kept = narrow(self._store, self._state[cell], self._store.without(self._running, a))
        self._state[cell] = gather(self._store, [*kept, *split])

    def _use_value(self, action, a):
        """Execute an instruction that has one expression."""
        split = self._evaluate(action[-1], a)
        if action[0] == "observe":
            self._end("rejected", where(split, False))
        elif action[0] == "assert":
            self._end("faulted", where(split, False))
        else:
            self._write(action[1], split, a)
            if action[0] == "split":
                opposite = [(not value, b) for value, b in split]
                self._write(action[2], opposite, a)

    def _write_item(self, action, a):
        _, base, size, index, tree = action
        indexes = self._evaluate(index, a)
        split = self._evaluate(tree, domain(self._store, indexes))
        for at, b in indexes:
            if 0 <= at < size:
                self._write(base + at, narrow(self._store, split, b), b)
            else:
                self._end("faulted", b)

    def _draw(self, action, a):
        """Hand out coins for each tuple of parameters of a draw, and take its alternatives."""
        parameters, fault = split_tuples(self._store, draw_parameters(action), self._state, a)
        self._end("faulted", fault)
        # Alternatives, each with the parameters and where it is chosen.
        chosen = []
        for values, b in parameters:
            try:
                weights = draw_weights(action, values)
            except Fault:
                self._end("faulted", b)
            else:
                guards = self._coins.alternatives(weights)
                self._draws.append((b, guards))
                for k, guard in enumerate(guards):
                    chosen.append((k, values, self._store.both(b, guard)))
        self._take(action, chosen, a)

    def _take(self, action, chosen, a):
        """Do what a draw does where its alternatives are chosen."""
        pairs = []
        if action[0] == "pick":
            for k, (tree, _) in enumerate(action[2]):
                picked = self._store.either_of([b for other, _, b in chosen if other == k])
                pairs.extend(self._evaluate(tree, picked))
        elif action[0] == "uniform":
            pairs = [(values[0] + k, b) for k, values, b in chosen]
        else:
            pairs = [(k == 0, b) for k, _, b in chosen]
        if action[0] == "weigh":
            self._end("rejected", self._store.either_of([b for truth, b in pairs if not truth]))
        else:
            self._write(action[1], gather(self._store, pairs), a)


def build_outcomes(flat):
    """Return the outcomes of a flat program."""
    cells, code, results = flat
    execution = Execution(cells)
    for instruction in code:
        execution.perform(instruction)
    return execution.conclude(results)


def outcome_under(outcomes, bits):
    """Return the outcome of the run under an assignment, and its results."""
    ended = (
        ("rejected", outcomes.rejected),
        ("exhausted", outcomes.exhausted),
        ("faulted", outcomes.faulted),
    )
    for outcome, a in ended:
        if outcomes.store.value(a, bits):
            return (outcome, ())
    return ("finished", value_under(outcomes.store, outcomes.finished, bits))


def choices_under(flat, outcomes, bits):
    """Return the list of the choices of the run under an assignment."""
    # The outcomes know the draws of the flat program, so it need not be run again.
    store = outcomes.store
    choices = []
    for a, guards in outcomes.draws:
        if store.value(a, bits):
            values = [store.value(guard, bits) for guard in guards]
            choices.append(values.index(True))
    return choices
