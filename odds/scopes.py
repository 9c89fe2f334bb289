"""Which names are visible, and what they stand for."""

from odds.errors import UnknownName
from odds.trees import statements_in


def main_scope(program):
    """Return the kinds of the names that are visible in the body of a program."""
    declarations, procedures = program[:2]
    scope = {name: kind for kind, name, _ in declarations}
    for procedure in procedures:
        scope[procedure[0]] = "proc"
    return scope


def procedure_scope(program, procedure):
    """Return the kinds of the names that are visible in a procedure."""
    return inner_scope(main_scope(program), procedure)


def inner_scope(outer, procedure):
    """Return the scope of a procedure whose parameters and locals join an outer scope."""
    scope = dict(outer)
    for kind, name in procedure[2] + procedure[3]:
        scope[name] = kind
    return scope


def procedure_named(program, name):
    """Return the first procedure that has a name."""
    for procedure in program[1]:
        if procedure[0] == name:
            return procedure
    raise UnknownName("no procedure has this name")


def calls_in(block):
    """Return the ascending list of the names of the procedures that a block calls."""
    return sorted({each[1] for each in statements_in(block) if each[0] == "call"})


def reachable_procedures(program):
    """Return the ascending list of the names of the procedures that a run may call."""
    reached = {}
    waiting = calls_in(program[3])
    while waiting:
        name = waiting.pop()
        if name not in reached:
            reached[name] = True
            waiting.extend(calls_in(procedure_named(program, name)[4]))
    return sorted(reached)
