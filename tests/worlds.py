"""Flat programs that are executed once for each assignment of coins, by the words of 8.6 to 8.9."""

from fractions import Fraction
from itertools import product

from tests.diagrams import mass_of
from tests.reference import Ended, Flat, fault_unless, pair_of, value_of

DRAWS = ("flip", "uniform", "pick", "weigh")


class World:
    """A run under an assignment of the coins that have been handed out so far."""

    def __init__(self, bits, cells, choices, ended):
        self.bits, self.memory, self.choices, self.ended = bits, Flat([]), choices, ended
        self.memory.cells = dict(cells)
        self.parameters = None

    def extended(self, bits):
        other = World(self.bits + bits, self.memory.cells, self.choices, self.ended)
        other.parameters = self.parameters
        return other

    def attempt(self, action):
        """Do something that may end the run, and return what it returns."""
        try:
            return action()
        except Ended as ended:
            self.ended = (ended.outcome, ())
        return None

    def value(self, tree):
        return value_of(tree, self.memory)

    def use(self, action):
        """Execute an instruction that makes no draw."""
        tag = action[0]
        if tag == "set":
            self.memory.write(action[1], self.value(action[2]))
        elif tag == "store":
            index, value = self.value(action[3]), self.value(action[4])
            fault_unless(0 <= index < action[2])
            self.memory.write(action[1] + index, value)
        elif tag == "split":
            value = self.value(action[3])
            self.memory.write(action[1], value)
            self.memory.write(action[2], not value)
        elif tag == "assert":
            fault_unless(self.value(action[1]))
        elif tag == "observe":
            if not self.value(action[1]):
                raise Ended("rejected")
        else:
            raise Ended({"fail": "faulted", "halt": "exhausted"}[tag])

    def ask(self, action):
        """The parameters of a draw, if it is possible."""
        trees = [tree for _, tree in action[2]] if action[0] == "pick" else action[-2:]
        values = tuple([self.value(tree) for tree in trees])
        weights_of(action[0], values)
        return values

    def take(self, action, chosen):
        """Go on with an alternative of a draw."""
        self.choices = self.choices + [chosen]
        if action[0] == "weigh":
            if chosen == 1:
                raise Ended("rejected")
        elif action[0] == "flip":
            self.memory.write(action[1], chosen == 0)
        elif action[0] == "uniform":
            self.memory.write(action[1], self.parameters[0] + chosen)
        else:
            self.memory.write(action[1], self.value(action[2][chosen][0]))


def weights_of(tag, values):
    """Point 4.3."""
    if tag == "pick":
        fault_unless(min(values) >= 0 and sum(values) >= 1)
        return list(values)
    if tag == "uniform":
        fault_unless(1 <= values[1] - values[0] + 1 <= 64)
        return [1] * (values[1] - values[0] + 1)
    fault_unless(0 <= values[0] <= values[1] and values[1] >= 1)
    return [values[0], values[1] - values[0]]


def draw(worlds, going, action, chances, most):
    """The worlds behind a draw, or None if there are more coins than the given number."""
    for world in going:
        world.parameters = world.attempt(lambda: world.ask(action))
    asked = sorted({world.parameters for world in going if world.parameters is not None})
    for parameters in asked:
        weights = weights_of(action[0], parameters)
        for k in range(len(weights) - 1):
            remaining = sum(weights[k:])
            chances.append(pair_of(Fraction(weights[k], remaining)) if remaining else (0, 1))
        if len(chances) > most:
            return None
        coins = list(product((False, True), repeat=len(weights) - 1))
        worlds = [world.extended(bits) for world in worlds for bits in coins]
        for world in worlds:
            if world.parameters == parameters:
                own = [*world.bits[len(world.bits) - len(weights) + 1:], True]
                world.attempt(lambda: world.take(action, own.index(True)))
                world.parameters = None
    return worlds


def worlds_of(flat, most=9):
    """The chances of the coins and the worlds, in ascending order of their assignments.

    None if there are more coins than the given number.
    """
    cells, code, results = flat
    chances = []
    start = {cell: kind == "int" and 0 for cell, kind in enumerate(cells)}
    worlds = [World((), start, [], None)]
    for guard, *action in code:
        going = [world for world in worlds
                 if world.ended is None and (guard == -1 or world.memory.read(guard))]
        if action[0] in DRAWS:
            worlds = draw(worlds, going, action, chances, most)
            if worlds is None:
                return None
        else:
            for world in going:
                world.attempt(lambda: world.use(action))
    for world in worlds:
        if world.ended is None:
            values = world.attempt(lambda: tuple([world.value(tree) for tree in results]))
            world.ended = world.ended or ("finished", values)
    return chances, worlds


def likeliest_world(worlds, chances, ended):
    """The first world of the greatest mass that ends like this, and its mass."""
    best = None
    for world in worlds:
        if world.ended == ended:
            mass = mass_of(world.bits, chances)
            if best is None or mass > best[1]:
                best = (world, mass)
    return best
