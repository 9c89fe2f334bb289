"""How many instructions a program unrolls to."""

from odds.idle import rounds_of
from odds.scopes import reachable_procedures
from odds.trees import blocks_of


def code_size(program):
    """Return the size of the body of a sound program."""
    _, procedures, fuel, body, _ = program
    reached = {name: True for name in reachable_procedures(program)}
    called = [procedure for procedure in procedures if procedure[0] in reached]
    # The sizes of calls, by procedure: first where no call is allowed, then with one call more
    # in each round, so that no procedure is sized twice for the same number of calls.
    sizes = {procedure[0]: 1 for procedure in called}
    for _ in range(fuel):
        sizes = {procedure[0]: _size_of_call(procedure, sizes) for procedure in called}
    return _size_of_block(body, sizes)


def _size_of_call(procedure, sizes):
    """Return the size of a call, with the sizes of the calls in its procedure."""
    _, _, parameters, inner, body, _ = procedure
    return len(parameters) + len(inner) + _size_of_block(body, sizes) + 1


def _size_of_block(block, sizes):
    return sum([_size_of_statement(statement, sizes) for statement in block])


def _size_of_statement(statement, sizes):
    tag = statement[0]
    if tag == "skip":
        return 0
    if tag == "call":
        return sizes[statement[1]]
    inner = sum([_size_of_block(block, sizes) for block in blocks_of(statement)])
    if tag == "repeat":
        return statement[1] * inner
    if tag == "while":
        return statement[2] * (1 + inner) + 2
    if tag == "for":
        return rounds_of(statement) * (1 + inner)
    # An `if`, or a statement without blocks.
    return 1 + inner
