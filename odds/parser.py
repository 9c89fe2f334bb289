"""The grammar of programs."""

from odds.errors import InvalidSyntax
from odds.expressions import check_height, cursor_over, expect_end, take_expression, take_pair
from odds.tokens import is_name
from odds.trees import expressions_of, statements_in

KINDS = ("int", "bool")


def parse_program(text):
    """Return the program of a text."""
    cursor = cursor_over(text)
    program = _take_program(cursor)
    expect_end(cursor)
    _check_heights(program)
    return program


def _check_heights(program):
    _, procedures, _, body, results = program
    blocks = [body]
    trees = list(results)
    for procedure in procedures:
        blocks.append(procedure[4])
        trees.append(procedure[5])
    for block in blocks:
        for statement in statements_in(block):
            trees.extend(expressions_of(statement))
    for tree in trees:
        check_height(tree)


def _take_program(cursor):
    declarations = []
    while cursor.peek() in ("int", "bool", "array"):
        declarations.append(_take_declaration(cursor))
    procedures = []
    while cursor.skip_if("proc"):
        procedures.append(_take_procedure(cursor))
    cursor.expect("main")
    fuel = cursor.numeral()
    body = _take_block(cursor)
    cursor.expect("return")
    results = _take_list(cursor, ";")
    return (tuple(declarations), tuple(procedures), fuel, body, results)


def _take_declaration(cursor):
    kind = cursor.take()
    name = cursor.name()
    size = 0
    if kind == "array":
        cursor.expect("[")
        size = cursor.numeral()
        cursor.expect("]")
    cursor.expect(";")
    return (kind, name, size)


def _take_procedure(cursor):
    """Take the rest of a procedure behind the word `proc`."""
    name = cursor.name()
    parameters = _take_parameters(cursor)
    kind = _take_kind(cursor)
    cursor.expect("{")
    inner = []
    while cursor.peek() in KINDS:
        inner.append(_take_kind_and_name(cursor))
        cursor.expect(";")
    body = _take_statements(cursor, "return")
    value = take_expression(cursor)
    cursor.expect(";")
    cursor.expect("}")
    return (name, kind, parameters, tuple(inner), body, value)


def _take_parameters(cursor):
    cursor.expect("(")
    if cursor.skip_if(")"):
        return ()
    parameters = _take_separated(cursor, _take_kind_and_name)
    cursor.expect(")")
    return parameters


def _take_separated(cursor, take_one):
    """Take one or more things with commas between them, each by the given function."""
    things = [take_one(cursor)]
    while cursor.skip_if(","):
        things.append(take_one(cursor))
    return tuple(things)


def _take_kind(cursor):
    if cursor.peek() not in KINDS:
        raise InvalidSyntax(cursor.taken)
    return cursor.take()


def _take_kind_and_name(cursor):
    kind = _take_kind(cursor)
    return (kind, cursor.name())


def _take_list(cursor, end):
    """Take any number of expressions with commas between them, and the token behind them."""
    if cursor.skip_if(end):
        return ()
    trees = _take_separated(cursor, take_expression)
    cursor.expect(end)
    return trees


def _take_block(cursor):
    cursor.expect("{")
    return _take_statements(cursor, "}")


def _take_statements(cursor, end):
    """Take any number of statements, and the token behind them."""
    statements = []
    while not cursor.skip_if(end):
        statements.append(_take_statement(cursor))
    return tuple(statements)


def _take_statement(cursor):
    word = cursor.peek()
    if is_name(word):
        return _take_assignment(cursor)
    if word not in STATEMENTS:
        raise InvalidSyntax(cursor.taken)
    cursor.take()
    take_rest = STATEMENTS[word]
    return take_rest(cursor)


def _take_assignment(cursor):
    name = cursor.name()
    if cursor.skip_if("["):
        index = take_expression(cursor)
        cursor.expect("]")
        cursor.expect(":=")
        statement = ("store", name, index, take_expression(cursor))
    elif cursor.skip_if("~"):
        statement = _take_draw(cursor, name)
    else:
        cursor.expect(":=")
        statement = ("set", name, take_expression(cursor))
    cursor.expect(";")
    return statement


def _take_draw(cursor, name):
    """Take the draw behind a name and `~`."""
    if cursor.skip_if("pick"):
        return ("pick", name, _take_choices(cursor))
    if cursor.peek() not in ("flip", "uniform"):
        raise InvalidSyntax(cursor.taken)
    tag = cursor.take()
    first, second = take_pair(cursor)
    return (tag, name, first, second)


def _take_choices(cursor):
    cursor.expect("(")
    choices = _take_separated(cursor, _take_choice)
    cursor.expect(")")
    return choices


def _take_choice(cursor):
    value = take_expression(cursor)
    cursor.expect(":")
    return (value, take_expression(cursor))


# Each function below takes the rest of a statement behind its first word.

def _take_skip(cursor):
    cursor.expect(";")
    return ("skip",)


def _take_fail(cursor):
    cursor.expect(";")
    return ("fail",)


def _take_observe(cursor):
    tree = take_expression(cursor)
    cursor.expect(";")
    return ("observe", tree)


def _take_assert(cursor):
    tree = take_expression(cursor)
    cursor.expect(";")
    return ("assert", tree)


def _take_weigh(cursor):
    first, second = take_pair(cursor)
    cursor.expect(";")
    return ("weigh", first, second)


def _take_if(cursor):
    condition = take_expression(cursor)
    then_block = _take_block(cursor)
    else_block = ()
    if cursor.skip_if("else"):
        else_block = _take_block(cursor)
    return ("if", condition, then_block, else_block)


def _take_repeat(cursor):
    count = cursor.numeral()
    return ("repeat", count, _take_block(cursor))


def _take_while(cursor):
    condition = take_expression(cursor)
    cursor.expect("max")
    count = cursor.numeral()
    return ("while", condition, count, _take_block(cursor))


def _take_for(cursor):
    name = cursor.name()
    cursor.expect("from")
    low = cursor.numeral()
    cursor.expect("to")
    high = cursor.numeral()
    return ("for", name, low, high, _take_block(cursor))


def _take_call(cursor):
    procedure = cursor.name()
    cursor.expect("(")
    arguments = _take_list(cursor, ")")
    cursor.expect("to")
    target = cursor.name()
    cursor.expect(";")
    return ("call", procedure, arguments, target)


STATEMENTS = {
    "skip": _take_skip, "fail": _take_fail, "observe": _take_observe, "assert": _take_assert,
    "weigh": _take_weigh, "if": _take_if, "repeat": _take_repeat, "while": _take_while,
    "for": _take_for, "call": _take_call,
}
