"""Flat expressions, which read cells in place of variables."""

from odds.trees import nodes_in
from odds.values import evaluate


def evaluate_flat(tree, state):
    """Return the value of a flat expression in a state."""
    return evaluate(tree, state)


def cells_in(tree):
    """Return the ascending list of the cells that a flat expression may read."""
    cells = {}
    for node in nodes_in(tree):
        if node[0] == "cell":
            cells[node[1]] = True
        elif node[0] == "at":
            _, base, size, _ = node
            for cell in range(base, base + size):
                cells[cell] = True
    return sorted(cells)


def flatten_expression(tree, places):
    """Return the flat expression of an expression, with the cells at which its names are."""
    tag = tree[0]
    if tag == "var":
        return ("cell", places[tree[1]])
    if tag == "item":
        base, size = places[tree[1]]
        return ("at", base, size, flatten_expression(tree[2], places))
    return (tag, *[
        flatten_expression(part, places) if isinstance(part, tuple) else part for part in tree[1:]
    ])
