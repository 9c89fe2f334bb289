"""Runs of programs."""

from odds.idle import program_without_idle
from odds.processes import Process
from odds.values import checked_index, evaluate


class Machine(Process):
    """A run of a program without idle statements.

    The statements that are still to be done stand on a stack, the next one at its end: a loop
    does one round and then puts back what is left of it. So no calls are nested for nested
    blocks, and another machine can go on from here.
    """

    def __init__(self, procedures, trees, memory, pending, calls_left):
        super().__init__(memory, trees)
        self._procedures = procedures
        self._pending = pending
        self._calls_left = calls_left

    def fork(self):
        """Return another machine that has got as far, for a run that has not ended."""
        copied = {}
        for name, value in self.memory.items():
            copied[name] = list(value) if isinstance(value, list) else value
        branch = Machine(
            self._procedures, self.trees, copied, list(self._pending), self._calls_left
        )
        branch.wait_at(self.draw, self.weights)
        return branch

    def step(self):
        """Execute the next statement, or finish if there is none."""
        if not self._pending:
            self.finish()
            return
        statement = self._pending.pop()
        tag = statement[0]
        if tag in ("if", "repeat", "while", "for"):
            self._enter(statement)
        elif tag == "store":
            self._store_item(statement)
        elif tag == "call":
            self._call(statement)
        elif tag == "end":
            self._end_call(statement)
        else:
            self.execute(statement)

    def _push(self, block):
        self._pending.extend(block[::-1])

    def _enter(self, statement):
        """Begin the next round of a loop, or one of the blocks of an `if`."""
        tag = statement[0]
        if tag == "if":
            self._push(statement[2] if evaluate(statement[1], self.memory) else statement[3])
        elif tag == "repeat":
            _, count, block = statement
            if count > 0:
                self._pending.append(("repeat", count - 1, block))
                self._push(block)
        elif tag == "while":
            self._enter_while(statement)
        else:
            _, name, low, high, block = statement
            if low <= high:
                self.memory[name] = low
                self._pending.append(("for", name, low + 1, high, block))
                self._push(block)

    def _enter_while(self, statement):
        _, condition, count, block = statement
        if not evaluate(condition, self.memory):
            return
        if count > 0:
            self._pending.append(("while", condition, count - 1, block))
            self._push(block)
        else:
            self.outcome = "exhausted"

    def _store_item(self, statement):
        _, name, index, tree = statement
        array = self.memory[name]
        at = checked_index(evaluate(index, self.memory), len(array))
        array[at] = evaluate(tree, self.memory)

    def _call(self, statement):
        """Begin a frame, unless no call is left."""
        if self._calls_left == 0:
            self.outcome = "exhausted"
            return
        _, name, arguments, target = statement
        _, _, parameters, inner, body, value = self._procedures[name]
        frame = {}
        for (_, parameter), argument in zip(parameters, arguments):
            frame[parameter] = evaluate(argument, self.memory)
        for kind, local in inner:
            frame[local] = initial_value(kind)
        # Names of this frame may stand in an outer frame, too, if a procedure calls itself, or
        # if two procedures have locals of the same name: keep the outer values until the end.
        outer = {each: self.memory[each] for each in frame if each in self.memory}
        self._calls_left -= 1
        self._pending.append(("end", value, frame, outer, target))
        self._push(body)
        self.memory.update(frame)

    def _end_call(self, statement):
        """Give the frame up, and the value of the procedure to the target."""
        _, tree, frame, outer, target = statement
        value = evaluate(tree, self.memory)
        for name in frame:
            del self.memory[name]
        self.memory.update(outer)
        self.memory[target] = value
        self._calls_left += 1


def initial_value(kind, size=0):
    """Return the first value of a variable or an array."""
    if kind == "array":
        return [0] * size
    return False if kind == "bool" else 0


def machine_of(program):
    """Return a machine at the beginning of a sound program."""
    declarations, procedures, fuel, body, results = program_without_idle(program)
    memory = {name: initial_value(kind, size) for kind, name, size in declarations}
    by_name = {procedure[0]: procedure for procedure in procedures}
    return Machine(by_name, results, memory, list(body[::-1]), fuel)


def run(program, choices):
    """Execute a sound program with the given choices, and return what comes of it."""
    return machine_of(program).follow(choices)
