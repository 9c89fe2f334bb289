"""Flat programs from programs."""

from odds.errors import TooLarge
from odds.flat import flatten_expression
from odds.idle import program_without_idle
from odds.sizes import code_size

GREATEST_SIZE = 400


def unroll(program):
    """Return the flat program of a sound program."""
    if code_size(program) > GREATEST_SIZE:
        raise TooLarge("the program is too large to be unrolled")
    declarations, procedures, fuel, body, results = program_without_idle(program)
    unroller = Unroller(declarations, procedures)
    unroller.unroll_body(body, fuel)
    flat_results = tuple([flatten_expression(tree, unroller.places) for tree in results])
    return (tuple(unroller.kinds), tuple(unroller.code), flat_results)


class Scene:
    """What the statements of a block depend on."""

    def __init__(self, guard, places, calls_left):
        self.guard = guard
        self.places = places
        self.calls_left = calls_left

    def under(self, guard):
        """Return the same scene with another guard."""
        return Scene(guard, self.places, self.calls_left)

    def flatten(self, tree):
        """Return the flat expression of an expression."""
        return flatten_expression(tree, self.places)


class Unroller:
    """The cells and the code that have been made so far.

    The statements that are still to be unrolled stand on a stack with their scenes, the next one
    at its end: a loop gives the code of one round and then puts back what is left of it. So no
    calls are nested for nested blocks and calls.
    """

    def __init__(self, declarations, procedures):
        # The kinds of all cells, the instructions, and the places of the program's own names.
        self.kinds = []
        self.code = []
        self.places = {}
        self._procedures = {procedure[0]: procedure for procedure in procedures}
        self._pending = []
        for kind, name, size in declarations:
            if kind == "array":
                self.places[name] = (len(self.kinds), size)
                self.kinds.extend(["int"] * size)
            else:
                self.places[name] = self._new_cell(kind)

    def unroll_body(self, body, fuel):
        """Append the code of the body of the program."""
        self._push(body, Scene(-1, self.places, fuel))
        while self._pending:
            statement, scene = self._pending.pop()
            self._unroll_statement(statement, scene)

    def _new_cell(self, kind):
        self.kinds.append(kind)
        return len(self.kinds) - 1

    def _push(self, block, scene):
        self._pending.extend([(statement, scene) for statement in block[::-1]])

    def _unroll_statement(self, statement, scene):
        tag = statement[0]
        if tag == "if":
            _, condition, then_block, else_block = statement
            yes, no = self._split(condition, scene)
            self._push(else_block, scene.under(no))
            self._push(then_block, scene.under(yes))
        elif tag == "repeat":
            _, count, block = statement
            if count > 0:
                self._pending.append((("repeat", count - 1, block), scene))
                self._push(block, scene)
        elif tag == "while":
            self._unroll_while(statement, scene)
        elif tag == "for":
            self._unroll_for(statement, scene)
        elif tag == "call":
            self._unroll_call(statement, scene)
        elif tag == "end":
            self.code.append((scene.guard, "set", statement[1], scene.flatten(statement[2])))
        else:
            self.code.append((scene.guard, *_flat_parts(statement, scene)))

    def _split(self, condition, scene):
        """Give a `split` and return its two new cells."""
        yes = self._new_cell("bool")
        no = self._new_cell("bool")
        self.code.append((scene.guard, "split", yes, no, scene.flatten(condition)))
        return (yes, no)

    def _unroll_while(self, statement, scene):
        _, condition, count, block = statement
        yes, _ = self._split(condition, scene)
        inside = scene.under(yes)
        if count == 0:
            self.code.append((yes, "halt"))
            return
        self._pending.append((("while", condition, count - 1, block), inside))
        self._push(block, inside)

    def _unroll_for(self, statement, scene):
        _, name, low, high, block = statement
        if low <= high:
            self.code.append((scene.guard, "set", scene.places[name], ("num", low)))
            self._pending.append((("for", name, low + 1, high, block), scene))
            self._push(block, scene)

    def _unroll_call(self, statement, scene):
        if scene.calls_left == 0:
            self.code.append((scene.guard, "halt"))
            return
        _, name, arguments, target = statement
        _, _, parameters, inner, body, value = self._procedures[name]
        places = dict(self.places)
        for kind, each in parameters + inner:
            places[each] = self._new_cell(kind)
        for (_, parameter), argument in zip(parameters, arguments):
            self.code.append((scene.guard, "set", places[parameter], scene.flatten(argument)))
        for kind, local in inner:
            first = ("false",) if kind == "bool" else ("num", 0)
            self.code.append((scene.guard, "set", places[local], first))
        frame = Scene(scene.guard, places, scene.calls_left - 1)
        self._pending.append((("end", scene.places[target], value), frame))
        self._push(body, frame)


def _flat_parts(statement, scene):
    """Return the parts of the instruction of a statement without blocks, behind its guard."""
    tag = statement[0]
    if tag == "store":
        _, name, index, tree = statement
        base, size = scene.places[name]
        return (tag, base, size, scene.flatten(index), scene.flatten(tree))
    if tag == "pick":
        pairs = tuple([(scene.flatten(v), scene.flatten(w)) for v, w in statement[2]])
        return (tag, scene.places[statement[1]], pairs)
    if tag in ("set", "flip", "uniform"):
        trees = [scene.flatten(tree) for tree in statement[2:]]
        return (tag, scene.places[statement[1]], *trees)
    return (tag, *[scene.flatten(tree) for tree in statement[1:]])
