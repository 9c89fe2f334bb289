"""Pseudo-random sound programs and flat programs, small enough to be walked through."""

from tests.support import Numbers

COMPARISONS = ("eq", "ne", "lt", "le")
ARITHMETIC = ("add", "sub", "mul", "div", "mod", "min", "max")


class Names:
    """The variables and arrays that an expression may read, by kind."""

    def __init__(self, ints, bools, arrays):
        self.ints, self.bools, self.arrays = list(ints), list(bools), list(arrays)

    def leaf(self, numbers, kind):
        return ("var", numbers.one_of(self.ints if kind == "int" else self.bools))

    def item(self, numbers, index):
        return ("item", numbers.one_of(self.arrays), index)

    def having(self, parameters):
        """The names with those of parameters and locals."""
        return Names(self.ints + [name for kind, name in parameters if kind == "int"],
                     self.bools + [name for kind, name in parameters if kind == "bool"],
                     self.arrays)


class Cells(Names):
    """The cells that a flat expression may read; an array is a pair of its base and its size."""

    def leaf(self, numbers, kind):
        return ("cell", numbers.one_of(self.ints if kind == "int" else self.bools))

    def item(self, numbers, index):
        return ("at", *numbers.one_of(self.arrays), index)


def int_tree(numbers, height, names):
    """An expression of kind int, which may fault."""
    chosen = numbers.below(10)
    if height <= 1 or chosen < 2:
        if names.ints and numbers.below(2):
            return names.leaf(numbers, "int")
        return ("num", numbers.below(5))
    if chosen == 2 and names.arrays:
        return names.item(numbers, int_tree(numbers, height - 2, names))
    if chosen == 3:
        return ("neg", int_tree(numbers, height - 1, names))
    if chosen == 4:
        return cond_tree(numbers, height, names, int_tree)
    tag = numbers.one_of(ARITHMETIC)
    return (tag, int_tree(numbers, height - 1, names), int_tree(numbers, height - 1, names))


def bool_tree(numbers, height, names):
    """An expression of kind bool, which may fault."""
    chosen = numbers.below(9)
    if height <= 1 or chosen < 2:
        if names.bools and numbers.below(4):
            return names.leaf(numbers, "bool")
        return numbers.one_of((("true",), ("false",)))
    if chosen == 2:
        return ("not", bool_tree(numbers, height - 1, names))
    if chosen == 3:
        return cond_tree(numbers, height, names, bool_tree)
    if chosen < 6:
        tag = numbers.one_of(("and", "or", "eq", "ne"))
        return (tag, bool_tree(numbers, height - 1, names), bool_tree(numbers, height - 1, names))
    tag = numbers.one_of(COMPARISONS)
    return (tag, int_tree(numbers, height - 1, names), int_tree(numbers, height - 1, names))


def cond_tree(numbers, height, names, make):
    return ("cond", bool_tree(numbers, height - 1, names), make(numbers, height - 1, names),
            make(numbers, height - 1, names))


def tree_of(numbers, kind, height, names):
    return (int_tree if kind == "int" else bool_tree)(numbers, height, names)


def flip_pair(numbers, names):
    """Two expressions for a flip, mostly such that it is possible."""
    if numbers.below(8) == 0:
        return (int_tree(numbers, 2, names), int_tree(numbers, 2, names))
    bottom = 1 + numbers.below(4)
    return (("num", numbers.below(bottom + 1)), ("num", bottom))


def uniform_pair(numbers, names):
    if numbers.below(6) == 0:
        return (int_tree(numbers, 2, names), int_tree(numbers, 2, names))
    low = numbers.below(3)
    first = ("num", low) if numbers.below(3) else ("neg", ("num", 1))
    return (first, ("num", low + numbers.below(2)))


def pick_pairs(numbers, kind, names):
    pairs = []
    for _ in range(1 + numbers.below(3)):
        weight = ("num", numbers.below(3)) if numbers.below(6) else int_tree(numbers, 2, names)
        pairs.append((tree_of(numbers, kind, 2, names), weight))
    return tuple(pairs)


def plain_statement(numbers, names):
    """A statement without blocks and calls."""
    chosen = numbers.below(20)
    number, truth = numbers.one_of(names.ints), numbers.one_of(names.bools)
    if chosen < 5:
        return ("set", number, int_tree(numbers, 3, names))
    if chosen < 8:
        return ("set", truth, bool_tree(numbers, 3, names))
    if chosen < 10:
        return ("flip", truth, *flip_pair(numbers, names))
    if chosen < 12:
        return ("uniform", number, *uniform_pair(numbers, names))
    if chosen == 12:
        return ("pick", number, pick_pairs(numbers, "int", names))
    if chosen == 13:
        return ("pick", truth, pick_pairs(numbers, "bool", names))
    if chosen == 14:
        return ("observe", ("or", names.leaf(numbers, "bool"), bool_tree(numbers, 3, names)))
    if chosen == 15:
        return ("weigh", *flip_pair(numbers, names))
    if chosen == 16:
        return ("assert", ("or", bool_tree(numbers, 2, names), bool_tree(numbers, 3, names)))
    if chosen == 17:
        return ("skip",)
    if chosen == 18 and numbers.below(4) == 0:
        return ("fail",)
    index = ("num", numbers.below(3)) if numbers.below(4) else int_tree(numbers, 2, names)
    return ("store", numbers.one_of(names.arrays), index, int_tree(numbers, 2, names))


def statement_of(numbers, depth, names, procedures):
    chosen = numbers.below(9)
    if procedures and chosen == 8:
        name, kind, parameters = numbers.one_of(procedures)
        arguments = tuple([tree_of(numbers, each, 2, names) for each, _ in parameters])
        target = numbers.one_of(names.ints if kind == "int" else names.bools)
        return ("call", name, arguments, target)
    if depth == 0 or chosen < 5:
        return plain_statement(numbers, names)
    block = block_of(numbers, depth - 1, names, procedures)
    if chosen == 5:
        other = block_of(numbers, depth - 1, names, procedures)
        return ("if", bool_tree(numbers, 3, names), block, other)
    if chosen == 6:
        return ("while", bool_tree(numbers, 3, names), numbers.below(3), block)
    if numbers.below(2):
        return ("repeat", numbers.below(3), block)
    low = numbers.below(4)
    return ("for", numbers.one_of(names.ints), low, max(0, low - 1) + numbers.below(3), block)


def block_of(numbers, depth, names, procedures):
    return tuple([statement_of(numbers, depth, names, procedures)
                  for _ in range(numbers.below(4))])


HEADS = (
    ("f", "int", (("int", "p"), ("bool", "q")), (("int", "k"),)),
    ("g", "bool", (), (("bool", "q"), ("int", "p"))),
    ("h", "int", (("int", "m"),), ()),
)


def sound_program(numbers):
    """A sound program, whose procedures may call themselves and each other."""
    declarations = (("int", "x", 0), ("bool", "b", 0), ("array", "t", 3), ("int", "y", 0),
                    ("bool", "c", 0), ("array", "u", 1))
    names = Names(("x", "y"), ("b", "c"), ("t", "u"))
    heads = HEADS[:numbers.below(4)]
    callable_ones = [head[:3] for head in heads]
    procedures = []
    for name, kind, parameters, inner in heads:
        own = names.having(parameters + inner)
        procedures.append((name, kind, parameters, inner, block_of(numbers, 1, own, callable_ones),
                           tree_of(numbers, kind, 2, own)))
    body = tuple([statement_of(numbers, 2, names, callable_ones)
                  for _ in range(1 + numbers.below(5))])
    results = tuple([tree_of(numbers, numbers.one_of(("int", "bool")), 1 + numbers.below(2), names)
                     for _ in range(numbers.below(3))])
    return (declarations, tuple(procedures), numbers.below(4), body, results)


FLAT_CELLS = ("int", "bool", "int", "int", "int", "bool", "int", "bool")


def flat_program(numbers, longest=8):
    """A flat program, in which guards are changed, too, and arrays overlap."""
    cells = Cells((0, 2, 3, 4, 6), (1, 5, 7), ((2, 3), (3, 2), (6, 1)))
    code = tuple([flat_instruction(numbers, cells) for _ in range(numbers.below(longest + 1))])
    results = tuple([tree_of(numbers, numbers.one_of(("int", "bool")), 1 + numbers.below(3), cells)
                     for _ in range(numbers.below(4))])
    return (FLAT_CELLS, code, results)


def flat_instruction(numbers, cells):
    guard = -1 if numbers.below(2) else numbers.one_of(cells.bools)
    chosen = numbers.below(12)
    if chosen == 0:
        return (guard, numbers.one_of(("halt", "fail")))
    if chosen < 4:
        yes = numbers.one_of(cells.bools)
        no = numbers.one_of([cell for cell in cells.bools if cell != yes])
        return (guard, "split", yes, no, bool_tree(numbers, 3, cells))
    statement = plain_statement(numbers, cells)
    if statement[0] == "store":
        return (guard, "store", *statement[1], *statement[2:])
    return (guard, *(statement if statement[0] not in ("skip", "fail") else ("set", 0, ("num", 2))))


def some_choices(numbers, many=8):
    """A list of choices, some of which are stray."""
    return [numbers.below(2 + numbers.below(3)) for _ in range(numbers.below(many))]


def sound_programs(seed, many):
    numbers = Numbers(seed)
    return [(sound_program(numbers), some_choices(numbers)) for _ in range(many)]


def flat_programs(seed, many, longest=8):
    numbers = Numbers(seed)
    return [(flat_program(numbers, longest), some_choices(numbers)) for _ in range(many)]
