"""Trees of expressions, statements and programs."""

# Where the parts of a statement stand in its tuple, by its tag. The parts of
# `pick` and `call` stand deeper, so they are not here.
EXPRESSION_PLACES = {
    "set": (2,), "store": (2, 3), "flip": (2, 3), "uniform": (2, 3), "observe": (1,),
    "weigh": (1, 2), "assert": (1,), "if": (1,), "while": (1,),
}
BLOCK_PLACES = {"if": (2, 3), "repeat": (2,), "while": (3,), "for": (4,)}
TARGET_PLACES = {"set": 1, "store": 1, "flip": 1, "uniform": 1, "pick": 1, "for": 1, "call": 3}


def parts_of(tree):
    """Return the list of the expressions directly inside an expression."""
    return [part for part in tree[1:] if isinstance(part, tuple)]


def nodes_in(tree):
    """Return the list of all expressions inside an expression, itself included."""
    nodes = [tree]
    at = 0
    # Trees that are being parsed may be thousands of levels high: no recursion.
    while at < len(nodes):
        node = nodes[at]
        nodes.extend(parts_of(node))
        at += 1
    return nodes


def height(tree):
    """Return the number of levels of an expression."""
    levels = 0
    row = [tree]
    while row:
        levels += 1
        row = [part for node in row for part in parts_of(node)]
    return levels


def count_nodes(tree):
    """Return the number of tuples with a tag in an expression."""
    return len(nodes_in(tree))


def names_in(tree):
    """Return the ascending list of the names of all variables and arrays in an expression."""
    return sorted({node[1] for node in nodes_in(tree) if node[0] in ("var", "item")})


def expressions_of(statement):
    """Return the list of the expressions of one statement, without those of its blocks."""
    tag = statement[0]
    if tag == "pick":
        return [tree for pair in statement[2] for tree in pair]
    if tag == "call":
        return list(statement[2])
    return [statement[place] for place in EXPRESSION_PLACES.get(tag, ())]


def blocks_of(statement):
    """Return the list of the blocks of one statement."""
    return [statement[place] for place in BLOCK_PLACES.get(statement[0], ())]


def has_target(statement):
    """Tell whether a statement assigns to a name."""
    return statement[0] in TARGET_PLACES


def target_of(statement):
    """Return the name to which a statement assigns."""
    return statement[TARGET_PLACES[statement[0]]]


def statements_in(block):
    """Return the list of the statements of a block and of the blocks inside it."""
    statements = []
    for statement in block:
        statements.append(statement)
        for inner in blocks_of(statement):
            statements.extend(statements_in(inner))
    return statements


def targets_of(block):
    """Return the ascending list of the names to which the statements of a block assign."""
    return sorted({target_of(each) for each in statements_in(block) if has_target(each)})
