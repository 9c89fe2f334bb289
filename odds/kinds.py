"""The kinds of the values of expressions."""

from odds.errors import KindMismatch, UnknownName
from odds.trees import nodes_in, parts_of

VARIABLE_KINDS = ("int", "bool")
BOOLEAN_TAGS = ("true", "false", "not", "eq", "ne", "lt", "le", "and", "or")


def kind_of(tree, scope):
    """Return the kind of the value of an expression."""
    check_names_of(tree, scope)
    return _kind_with_parts(tree, scope)


def check_names_of(tree, scope):
    """Raise an error unless all names in an expression are visible with the right kind."""
    for node in nodes_in(tree):
        if node[0] == "var" and scope.get(node[1]) not in VARIABLE_KINDS:
            raise UnknownName("no variable has this name")
        if node[0] == "item" and scope.get(node[1]) != "array":
            raise UnknownName("no array has this name")


def _kind_with_parts(tree, scope):
    """Return the kind of an expression, and check the kinds of all parts."""
    tag = tree[0]
    kinds = [_kind_with_parts(part, scope) for part in parts_of(tree)]
    if not _may_have_parts(tag, kinds):
        raise KindMismatch("a part of an expression has a wrong kind")
    if tag == "var":
        return scope[tree[1]]
    if tag == "cond":
        return kinds[1]
    return "bool" if tag in BOOLEAN_TAGS else "int"


def _may_have_parts(tag, kinds):
    """Tell whether an expression with a tag may have parts of these kinds."""
    if tag in ("eq", "ne"):
        return kinds[0] == kinds[1]
    if tag == "cond":
        return kinds[0] == "bool" and kinds[1] == kinds[2]
    wanted = "bool" if tag in ("not", "and", "or") else "int"
    return all([kind == wanted for kind in kinds])
