"""Second implementations of what several points promise, as close to their words as possible.

They know nothing of the package: masses are Fractions, and a run nests calls as the blocks are.
"""

from fractions import Fraction
from math import floor

GREATEST = 999999999


class Ended(Exception):
    """A run has ended without results."""

    def __init__(self, outcome, width=0):
        super().__init__(outcome)
        self.outcome = outcome
        self.width = width


def fault_unless(condition):
    if not condition:
        raise Ended("faulted")


def in_range(number):
    fault_unless(abs(number) <= GREATEST)
    return number


def quotient(a, b):
    fault_unless(b != 0)
    return floor(Fraction(a, b))


STRICT = {
    "add": lambda a, b: in_range(a + b), "sub": lambda a, b: in_range(a - b),
    "mul": lambda a, b: in_range(a * b), "div": quotient,
    "mod": lambda a, b: a - b * quotient(a, b),
    "min": lambda a, b: a if a < b else b, "max": lambda a, b: b if a < b else a,
    "eq": lambda a, b: a == b, "ne": lambda a, b: a != b,
    "lt": lambda a, b: a < b, "le": lambda a, b: a <= b,
}


def value_of(tree, memory):
    """Points 4.2 and 5.2, for a memory with `read` and `items`."""
    tag = tree[0]
    if tag in ("var", "cell"):
        return memory.read(tree[1])
    if tag in ("item", "at"):
        items, index = memory.items(tree), value_of(tree[-1], memory)
        fault_unless(0 <= index < len(items))
        return memory.read(items[index])
    if tag == "num":
        return tree[1]
    if tag in ("true", "false"):
        return tag == "true"
    first = value_of(tree[1], memory)
    if tag == "neg":
        return -first
    if tag == "not":
        return not first
    if tag == "and":
        return value_of(tree[2], memory) if first else False
    if tag == "or":
        return True if first else value_of(tree[2], memory)
    if tag == "cond":
        return value_of(tree[2], memory) if first else value_of(tree[3], memory)
    return STRICT[tag](first, value_of(tree[2], memory))


class Flat:
    """The cells of a flat program."""

    def __init__(self, state):
        self.cells = dict(enumerate(state))

    def read(self, cell):
        return self.cells[cell]

    def write(self, cell, value):
        assert cell in self.cells
        self.cells[cell] = value

    def items(self, parts):
        return list(range(parts[1], parts[1] + parts[2]))


class Frames:
    """The variables of a program, the items of its arrays, and the frames of active calls."""

    def __init__(self, declarations):
        self.own = {}
        self.sizes = {}
        self.frames = []
        for kind, name, size in declarations:
            if kind == "array":
                self.sizes[name] = size
                self.own.update({(name, at): 0 for at in range(size)})
            else:
                self.own[name] = kind == "int" and 0

    def read(self, name):
        return self.place(name)[name]

    def write(self, name, value):
        self.place(name)[name] = value

    def place(self, name):
        if self.frames and name in self.frames[-1]:
            return self.frames[-1]
        assert name in self.own, name
        return self.own

    def items(self, parts):
        return [(parts[1], at) for at in range(self.sizes[parts[1]])]


class Walk:
    """One run of a program or a flat program."""

    def __init__(self, memory, choices):
        self.memory = memory
        self.choices = choices
        self.used = 0
        self.mass = Fraction(1)

    def value(self, tree):
        return value_of(tree, self.memory)

    def draw(self, weights):
        """The alternative that the next choice takes, and it counts."""
        if self.used == len(self.choices):
            raise Ended("starved", len(weights))
        chosen = self.choices[self.used]
        if chosen >= len(weights):
            raise Ended("stray", len(weights))
        self.used += 1
        self.mass *= Fraction(weights[chosen], sum(weights))
        return chosen

    def flip(self, first, second):
        a, b = self.value(first), self.value(second)
        fault_unless(0 <= a <= b and b >= 1)
        return self.draw([a, b - a]) == 0

    def simple(self, statement):
        """A statement without blocks, or an instruction without its guard."""
        tag = statement[0]
        if tag == "set":
            self.memory.write(statement[1], self.value(statement[2]))
        elif tag == "store":
            items, index = self.memory.items(statement), self.value(statement[-2])
            value = self.value(statement[-1])
            fault_unless(0 <= index < len(items))
            self.memory.write(items[index], value)
        elif tag == "flip":
            self.memory.write(statement[1], self.flip(*statement[2:]))
        elif tag == "uniform":
            low, high = [self.value(tree) for tree in statement[2:]]
            fault_unless(low <= high <= low + 63)
            self.memory.write(statement[1], low + self.draw([1] * (high - low + 1)))
        elif tag == "pick":
            weights = [self.value(weight) for _, weight in statement[2]]
            fault_unless(min(weights) >= 0 and max(weights) > 0)
            chosen = self.draw(weights)
            self.memory.write(statement[1], self.value(statement[2][chosen][0]))
        elif tag == "observe":
            if not self.value(statement[1]):
                raise Ended("rejected")
        elif tag == "weigh":
            if not self.flip(*statement[1:]):
                raise Ended("rejected")
        elif tag == "assert":
            fault_unless(self.value(statement[1]))
        elif tag == "fail":
            fault_unless(False)
        else:
            assert tag == "skip", tag

    def outcome(self, body, results):
        """The tuple of point 4.6, where `body` executes everything but the results."""
        outcome, values, width = "finished", (), 0
        try:
            body()
            values = tuple([self.value(tree) for tree in results])
        except Ended as ended:
            outcome, width = ended.outcome, ended.width
        return (outcome, values, self.used, (self.mass.numerator, self.mass.denominator), width)


class ProgramWalk(Walk):

    def __init__(self, program, choices):
        super().__init__(Frames(program[0]), choices)
        self.program = program
        self.active = 0

    def block(self, block):
        for statement in block:
            self.statement(statement)

    def statement(self, statement):
        tag = statement[0]
        if tag == "if":
            self.block(statement[2] if self.value(statement[1]) else statement[3])
        elif tag == "repeat":
            for _ in range(statement[1]):
                self.block(statement[2])
        elif tag == "while":
            done = 0
            while self.value(statement[1]):
                if done == statement[2]:
                    raise Ended("exhausted")
                self.block(statement[3])
                done += 1
        elif tag == "for":
            for k in range(statement[2], statement[3] + 1):
                self.memory.write(statement[1], k)
                self.block(statement[4])
        elif tag == "call":
            self.call(statement)
        else:
            self.simple(statement)

    def call(self, statement):
        if self.active == self.program[2]:
            raise Ended("exhausted")
        _, name, arguments, target = statement
        procedure = [each for each in self.program[1] if each[0] == name][0]
        frame = {local: kind == "int" and 0 for kind, local in procedure[3]}
        for (_, parameter), argument in zip(procedure[2], arguments):
            frame[parameter] = self.value(argument)
        self.active += 1
        self.memory.frames.append(frame)
        self.block(procedure[4])
        value = self.value(procedure[5])
        self.memory.frames.pop()
        self.active -= 1
        self.memory.write(target, value)


class FlatWalk(Walk):

    def __init__(self, flat, choices):
        super().__init__(Flat([kind == "int" and 0 for kind in flat[0]]), choices)
        self.flat = flat
        # The state before each instruction that the run has come to, and before the results.
        self.states = []

    def body(self):
        for guard, *action in self.flat[1]:
            self.states.append(dict(self.memory.cells))
            if guard == -1 or self.memory.read(guard):
                self.instruction(tuple(action))
        self.states.append(dict(self.memory.cells))

    def instruction(self, action):
        if action[0] == "split":
            value = self.value(action[3])
            self.memory.write(action[1], value)
            self.memory.write(action[2], not value)
        elif action[0] == "halt":
            raise Ended("exhausted")
        else:
            self.simple(action)


def run_program(program, choices):
    walk = ProgramWalk(program, choices)
    return walk.outcome(lambda: walk.block(program[3]), program[4])


def walk_flat(flat, choices):
    """The tuple of a run of a flat program, and the states that it has come to."""
    walk = FlatWalk(flat, choices)
    return (walk.outcome(walk.body, flat[2]), walk.states)


def run_flat_program(flat, choices):
    return walk_flat(flat, choices)[0]


def all_paths(run, code, most=400):
    """The paths with their runs, ascending, or None if there are more than the given number."""
    found, waiting = [], [()]
    while waiting:
        choices = waiting.pop()
        done = run(code, list(choices))
        if done[0] == "starved":
            waiting.extend([(*choices, k) for k in reversed(range(done[4]))])
        else:
            found.append((choices, done))
        if len(found) + len(waiting) > most:
            return None
    return found


def answer_of_paths(found):
    """The answer of point 4.8, for what `all_paths` returns."""
    masses, lost = {}, {"rejected": Fraction(0), "exhausted": Fraction(0), "faulted": Fraction(0)}
    for _, (outcome, values, _, mass, _) in found:
        if outcome == "finished":
            masses[values] = masses.get(values, 0) + Fraction(*mass)
        else:
            lost[outcome] += Fraction(*mass)
    table = tuple([(key, pair_of(masses[key])) for key in sorted(masses) if masses[key] != 0])
    return (table, *[pair_of(mass) for mass in lost.values()])


def pair_of(fraction):
    return (fraction.numerator, fraction.denominator)


def total_of(answer):
    return sum([Fraction(*mass) for _, mass in answer[0]] + [Fraction(*mass) for mass in answer[1:]])
