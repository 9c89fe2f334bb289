"""The rules of sound programs."""

from odds.errors import (
    BadSize, CheckError, KindMismatch, NameClash, UnknownName, WrongCount,
)
from odds.kinds import VARIABLE_KINDS, check_names_of, kind_of
from odds.scopes import inner_scope, main_scope
from odds.trees import expressions_of, has_target, statements_in, target_of

GREATEST_ARRAY = 20
GREATEST_BOUND = 100
GREATEST_FUEL = 8

# Where the counts and bounds of a statement stand in its tuple, by its tag.
BOUND_PLACES = {"repeat": (1,), "while": (2,), "for": (2, 3)}
# The kinds of the expressions of a statement where they depend on its tag alone.
EXPRESSION_KINDS = {
    "store": ("int", "int"), "flip": ("int", "int"), "uniform": ("int", "int"),
    "weigh": ("int", "int"), "observe": ("bool",), "assert": ("bool",), "if": ("bool",),
    "while": ("bool",),
}
TARGET_KINDS = {"flip": "bool", "uniform": "int", "for": "int"}


def check_program(program):
    """Raise the error of the first rule that a program breaks, if there is one."""
    _check_clashes(program)
    _check_sizes(program)
    _check_names(program)
    _check_counts(program)
    _check_kinds(program)


def is_sound(program):
    """Tell whether a program breaks no rule."""
    try:
        check_program(program)
    except CheckError:
        return False
    return True


def _blocks_of_program(program):
    return [program[3], *[procedure[4] for procedure in program[1]]]


def _check_clashes(program):
    declarations, procedures = program[:2]
    outer = [name for _, name, _ in declarations] + [procedure[0] for procedure in procedures]
    if len(set(outer)) < len(outer):
        raise NameClash("two variables, arrays or procedures have the same name")
    outer_names = {name: True for name in outer}
    for procedure in procedures:
        inner = [name for _, name in procedure[2] + procedure[3]]
        if len(set(inner)) < len(inner):
            raise NameClash("two parameters or locals of a procedure have the same name")
        if any([name in outer_names for name in inner]):
            raise NameClash("a parameter or local has a name of the program")


def _check_sizes(program):
    for kind, _, size in program[0]:
        if kind == "array" and (size < 1 or size > GREATEST_ARRAY):
            raise BadSize("an array has too few or too many items")
    for block in _blocks_of_program(program):
        for statement in statements_in(block):
            for place in BOUND_PLACES.get(statement[0], ()):
                if statement[place] > GREATEST_BOUND:
                    raise BadSize("a count or a bound is too great")
    if program[2] > GREATEST_FUEL:
        raise BadSize("the fuel is too great")


def _check_names(program):
    _, procedures, _, body, results = program
    outer = main_scope(program)
    _check_names_in(body, results, outer)
    for procedure in procedures:
        _check_names_in(procedure[4], (procedure[5],), inner_scope(outer, procedure))


def _check_names_in(block, trees, scope):
    """Check the names in a block and in the expressions behind it."""
    for statement in statements_in(block):
        _check_names_of_statement(statement, scope)
    for tree in trees:
        check_names_of(tree, scope)


def _check_names_of_statement(statement, scope):
    for tree in expressions_of(statement):
        check_names_of(tree, scope)
    if has_target(statement):
        allowed = ("array",) if statement[0] == "store" else VARIABLE_KINDS
        if scope.get(target_of(statement)) not in allowed:
            raise UnknownName("the target of a statement is not known")
    if statement[0] == "call" and scope.get(statement[1]) != "proc":
        raise UnknownName("a called procedure is not known")


def _procedures_by_name(program):
    return {procedure[0]: procedure for procedure in program[1]}


def _check_counts(program):
    by_name = _procedures_by_name(program)
    for block in _blocks_of_program(program):
        for statement in statements_in(block):
            if statement[0] == "call" and len(statement[2]) != len(by_name[statement[1]][2]):
                raise WrongCount("a call has a wrong number of arguments")


def _check_kinds(program):
    _, procedures, _, body, results = program
    by_name = _procedures_by_name(program)
    outer = main_scope(program)
    _check_kinds_in(body, outer, by_name)
    for tree in results:
        # Results may have either kind, but their parts must fit.
        kind_of(tree, outer)
    for procedure in procedures:
        scope = inner_scope(outer, procedure)
        _check_kinds_in(procedure[4], scope, by_name)
        _check_kind(procedure[5], procedure[1], scope)


def _check_kinds_in(block, scope, by_name):
    for statement in statements_in(block):
        wanted = _expression_kinds(statement, scope, by_name)
        for tree, kind in zip(expressions_of(statement), wanted):
            _check_kind(tree, kind, scope)
        _check_target_kind(statement, scope, by_name)


def _check_kind(tree, kind, scope):
    if kind_of(tree, scope) != kind:
        raise KindMismatch("an expression has a wrong kind")


def _expression_kinds(statement, scope, by_name):
    """Return the list of the kinds that the expressions of a statement must have."""
    tag = statement[0]
    if tag == "set":
        return [scope[statement[1]]]
    if tag == "pick":
        return [scope[statement[1]], "int"] * len(statement[2])
    if tag == "call":
        return [kind for kind, _ in by_name[statement[1]][2]]
    return list(EXPRESSION_KINDS.get(tag, ()))


def _check_target_kind(statement, scope, by_name):
    tag = statement[0]
    if tag == "call":
        wanted = by_name[statement[1]][1]
    elif tag in TARGET_KINDS:
        wanted = TARGET_KINDS[tag]
    else:
        return
    if scope[target_of(statement)] != wanted:
        raise KindMismatch("the target of a statement has a wrong kind")
