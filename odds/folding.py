"""Simpler flat expressions and flat programs, by the spans of the cells."""

from odds.instructions import instruction_expressions, with_expressions
from odds.kinds import BOOLEAN_TAGS
from odds.spans import judge
from odds.tracing import is_certain, is_impossible, trace_spans

TRUE = ("true",)
FALSE = ("false",)


def fold(tree, spans, cells):
    """Return a simpler flat expression."""
    (low, high), safe = judge(tree, spans)
    if safe and low == high:
        return _literal(low, _kind_of_flat(tree, cells))
    tag = tree[0]
    parts = [fold(part, spans, cells) if isinstance(part, tuple) else part for part in tree[1:]]
    if (tag, parts[0]) in (("and", TRUE), ("or", FALSE), ("cond", TRUE)):
        return parts[1]
    if (tag, parts[0]) == ("cond", FALSE):
        return parts[2]
    return (tag, *parts)


def propagate(flat):
    """Return a flat program with simpler expressions and fewer instructions and guards."""
    cells, code, results = flat
    trace = trace_spans(flat)
    kept = []
    for instruction, spans in zip(code, trace):
        if not is_impossible(instruction[0], spans):
            simpler = _simplified(instruction, spans, cells)
            if simpler[1:] not in (("observe", TRUE), ("assert", TRUE)):
                kept.append(simpler)
    return (cells, tuple(kept), tuple([fold(tree, trace[-1], cells) for tree in results]))


def _simplified(instruction, spans, cells):
    trees = [fold(tree, spans, cells) for tree in instruction_expressions(instruction)]
    guard = -1 if is_certain(instruction[0], spans) else instruction[0]
    return (guard, *with_expressions(instruction, trees)[1:])


def _literal(number, kind):
    """Return the literal of a value, where 0 and 1 stand for booleans."""
    if kind == "bool":
        return TRUE if number == 1 else FALSE
    return ("num", number) if number >= 0 else ("neg", ("num", -number))


def _kind_of_flat(tree, cells):
    """Return the kind of a flat expression."""
    while tree[0] == "cond":
        tree = tree[2]
    if tree[0] == "cell":
        return cells[tree[1]]
    return "bool" if tree[0] in BOOLEAN_TAGS else "int"
