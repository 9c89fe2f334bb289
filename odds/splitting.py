"""Flat expressions, evaluated for all assignments of coins at once."""

from odds.errors import Fault
from odds.splits import gather, narrow, where
from odds.values import OPERATIONS


def split_expression(store, tree, state, a):
    """Return the split of the values of an expression where `a` is True, and where it faults."""
    tag = tree[0]
    if a == 0:
        return (), 0
    if tag == "num":
        return ((tree[1], a),), 0
    if tag in ("true", "false"):
        return ((tag == "true", a),), 0
    if tag == "cell":
        return narrow(store, state[tree[1]], a), 0
    if tag == "at":
        return _split_item(store, tree, state, a)
    if tag in ("and", "or", "cond"):
        return _split_choice(store, tree, state, a)
    if tag in ("neg", "not"):
        split, fault = split_expression(store, tree[1], state, a)
        opposite = [(-value if tag == "neg" else not value, b) for value, b in split]
        return tuple(opposite[::-1]), fault
    return _split_operation(store, tree, state, a)


def split_tuples(store, trees, state, a):
    """Return the split of the tuples of the values of several expressions, and where one faults."""
    split = (((), a),) if a != 0 else ()
    faults = []
    for tree in trees:
        added, fault = split_expression(store, tree, state, a)
        pairs = [((*values, value), b) for values, value, b in _meet(store, split, added, a)]
        split = gather(store, pairs)
        faults.append(fault)
        a = store.without(a, fault)
    return split, store.either_of(faults)


def _split_item(store, tree, state, a):
    _, base, size, index = tree
    indexes, fault = split_expression(store, index, state, a)
    pairs = []
    faults = [fault]
    for at, b in indexes:
        if 0 <= at < size:
            pairs.extend(narrow(store, state[base + at], b))
        else:
            faults.append(b)
    return gather(store, pairs), store.either_of(faults)


def _split_choice(store, tree, state, a):
    """Evaluate an expression that need not evaluate all of its parts."""
    parts = tree[2:]
    if tree[0] == "and":
        parts = (tree[2], ("false",))
    elif tree[0] == "or":
        parts = (("true",), tree[2])
    condition, fault = split_expression(store, tree[1], state, a)
    first, first_fault = split_expression(store, parts[0], state, where(condition, True))
    second, second_fault = split_expression(store, parts[1], state, where(condition, False))
    split = gather(store, [*first, *second])
    return split, store.either_of([fault, first_fault, second_fault])


def _split_operation(store, tree, state, a):
    """Evaluate an expression with two operands, which are both evaluated."""
    operation = OPERATIONS[tree[0]]
    first, fault = split_expression(store, tree[1], state, a)
    remaining = store.without(a, fault)
    second, second_fault = split_expression(store, tree[2], state, remaining)
    pairs = []
    faults = [fault, second_fault]
    for value, other, b in _meet(store, first, second, remaining):
        try:
            pairs.append((operation(value, other), b))
        except Fault:
            faults.append(b)
    return gather(store, pairs), store.either_of(faults)


def _meet(store, first, second, a):
    """Return the pairs of values that two splits have at once, and where they have them.

    Both splits have values only where `a` is True.
    """
    found = []
    for value, b in first:
        for other, c in second:
            # A split with one value everywhere is common, and needs no new diagrams.
            if b == a:
                found.append((value, other, c))
            elif c == a:
                found.append((value, other, b))
            else:
                found.append((value, other, store.both(b, c)))
    return [(value, other, b) for value, other, b in found if b != 0]
