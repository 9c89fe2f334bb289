"""The grammar of expressions."""

from odds.cursor import Cursor
from odds.errors import InvalidSyntax, TooDeep
from odds.operators import COMPARISON_LEVEL, HIGHEST_LEVEL, LEVEL_OF, TAG_OF
from odds.tokens import bracket_depth, is_name, is_numeral, tokenize
from odds.trees import height

GREATEST_DEPTH = 24


def parse_expression(text):
    """Return the tree of a text that consists of one expression."""
    cursor = cursor_over(text)
    tree = take_expression(cursor)
    expect_end(cursor)
    check_height(tree)
    return tree


def cursor_over(text):
    """Return a cursor over the tokens of a text, whose brackets are not too deep."""
    tokens = tokenize(text)
    if bracket_depth(tokens) > GREATEST_DEPTH:
        raise TooDeep("the brackets are nested too deep")
    return Cursor(tokens)


def expect_end(cursor):
    """Raise an error unless all tokens have been taken."""
    if cursor.peek() != "":
        raise InvalidSyntax(cursor.taken)


def check_height(tree):
    """Raise an error if an expression is too high."""
    if height(tree) > GREATEST_DEPTH:
        raise TooDeep("an expression is too high")


def take_expression(cursor):
    """Take an expression, which may be of any height."""
    return _take_operation(cursor, 1)


def take_pair(cursor):
    """Take two expressions in brackets and return them."""
    cursor.expect("(")
    first = take_expression(cursor)
    cursor.expect(",")
    second = take_expression(cursor)
    cursor.expect(")")
    return (first, second)


def _take_operation(cursor, least):
    """Take an expression whose operators outside of brackets have at least a level."""
    tree = _take_factor(cursor)
    most = HIGHEST_LEVEL
    # Long chains of operators are taken in this loop, so that calls do not nest.
    while least <= _level_at(cursor) <= most:
        tag = TAG_OF[cursor.take()]
        level = LEVEL_OF[tag]
        tree = (tag, tree, _take_operation(cursor, level + 1))
        most = level - 1 if level == COMPARISON_LEVEL else level
    return tree


def _level_at(cursor):
    """Return the level of the next token, 0 if it is no operator."""
    token = cursor.peek()
    if token in TAG_OF:
        return LEVEL_OF[TAG_OF[token]]
    return 0


def _take_factor(cursor):
    if cursor.skip_if("-"):
        return ("neg", _take_atom(cursor))
    if cursor.skip_if("not"):
        return ("not", _take_atom(cursor))
    return _take_atom(cursor)


def _take_atom(cursor):
    token = cursor.peek()
    if is_numeral(token):
        return ("num", cursor.numeral())
    if is_name(token):
        return _take_variable(cursor)
    if token in ("true", "false"):
        return (cursor.take(),)
    if token in ("min", "max"):
        tag = cursor.take()
        first, second = take_pair(cursor)
        return (tag, first, second)
    cursor.expect("(")
    return _take_bracketed(cursor)


def _take_variable(cursor):
    name = cursor.name()
    if not cursor.skip_if("["):
        return ("var", name)
    index = take_expression(cursor)
    cursor.expect("]")
    return ("item", name, index)


def _take_bracketed(cursor):
    """Take the rest of an expression behind an opening bracket."""
    if cursor.skip_if("if"):
        condition = take_expression(cursor)
        cursor.expect("then")
        first = take_expression(cursor)
        cursor.expect("else")
        tree = ("cond", condition, first, take_expression(cursor))
    else:
        tree = take_expression(cursor)
    cursor.expect(")")
    return tree
