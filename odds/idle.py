"""Statements that do nothing, however often they are repeated."""

from odds.trees import BLOCK_PLACES


def without_idle(block):
    """Return the block without the idle statements in it and in the blocks inside it."""
    slim = [_with_slim_blocks(statement) for statement in block]
    return tuple([statement for statement in slim if not _is_idle(statement)])


def program_without_idle(program):
    """Return the program without its idle statements."""
    declarations, procedures, fuel, body, results = program
    slim = tuple([(*each[:4], without_idle(each[4]), each[5]) for each in procedures])
    return (declarations, slim, fuel, without_idle(body), results)


def rounds_of(statement):
    """Return the number of rounds of a `for`."""
    _, _, low, high, _ = statement
    return max(0, high - low + 1)


def _with_slim_blocks(statement):
    places = BLOCK_PLACES.get(statement[0], ())
    return tuple([
        without_idle(part) if place in places else part for place, part in enumerate(statement)
    ])


def _is_idle(statement):
    """Tell whether a statement is idle whose blocks have no idle statements."""
    tag = statement[0]
    if tag == "repeat":
        return statement[1] == 0 or not statement[2]
    if tag == "for":
        return rounds_of(statement) == 0
    return tag == "skip"
