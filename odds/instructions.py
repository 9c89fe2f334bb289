"""The parts of the instructions of flat programs."""

# Where the expressions of an instruction begin in its tuple, by its tag; they stand at its end.
# Those of `pick` stand deeper, so they are not here.
FIRST_EXPRESSION = {
    "set": 3, "store": 4, "flip": 3, "uniform": 3, "observe": 2, "weigh": 2, "assert": 2,
    "split": 4,
}


def instruction_expressions(instruction):
    """Return the list of the expressions of an instruction, in the order of its tuple."""
    tag = instruction[1]
    if tag == "pick":
        return [tree for pair in instruction[3] for tree in pair]
    if tag in FIRST_EXPRESSION:
        return list(instruction[FIRST_EXPRESSION[tag]:])
    return []


def with_expressions(instruction, trees):
    """Return the instruction with other expressions, given in the same order."""
    tag = instruction[1]
    if tag == "pick":
        return (*instruction[:3], tuple(zip(trees[::2], trees[1::2])))
    if tag in FIRST_EXPRESSION:
        return (*instruction[:FIRST_EXPRESSION[tag]], *trees)
    return instruction


def is_array_write(instruction):
    """Tell whether an instruction writes to one of several cells."""
    return instruction[1] == "store"


def written_cells(instruction):
    """Return the list of the cells to which an instruction may write."""
    tag = instruction[1]
    if tag == "store":
        _, _, base, size, _, _ = instruction
        return list(range(base, base + size))
    if tag == "split":
        return [instruction[2], instruction[3]]
    if tag in ("set", "flip", "uniform", "pick"):
        return [instruction[2]]
    return []
