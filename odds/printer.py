"""The texts of expressions and programs."""

from odds.operators import COMPARISON_LEVEL, LEVEL_OF, SIGN_OF

PREFIX_LEVEL = 6
ATOM_LEVEL = 7


def show_expression(tree):
    """Return the text of an expression, also of a flat one, with the fewest brackets."""
    tag = tree[0]
    if tag in SIGN_OF:
        return _show_operation(tree)
    if tag == "neg":
        return "-" + _show_operand(tree[1], ATOM_LEVEL)
    if tag == "not":
        return "not " + _show_operand(tree[1], ATOM_LEVEL)
    return _show_atom(tree)


def show_program(program):
    """Return the text of a program."""
    declarations, procedures, fuel, body, results = program
    lines = [_show_declaration(declaration) for declaration in declarations]
    for procedure in procedures:
        lines.extend(_procedure_lines(procedure))
    lines.extend(_braced_lines(f"main {fuel}", body))
    lines.append("}")
    lines.append(_results_line(results))
    return "".join([line + "\n" for line in lines])


def _results_line(results):
    if not results:
        return "return;"
    return "return " + _show_list(results) + ";"


def _level_of(tree):
    if tree[0] in ("neg", "not"):
        return PREFIX_LEVEL
    return LEVEL_OF.get(tree[0], ATOM_LEVEL)


def _show_operand(tree, least):
    """Return the text of an operand whose place allows levels from the given one on."""
    text = show_expression(tree)
    if _level_of(tree) < least:
        return "(" + text + ")"
    return text


def _show_operation(tree):
    tag, left, right = tree
    level = LEVEL_OF[tag]
    # Comparisons do not group, the other operators group to the left.
    least = level + 1 if level == COMPARISON_LEVEL else level
    return _show_operand(left, least) + f" {SIGN_OF[tag]} " + _show_operand(right, level + 1)


def _show_atom(tree):
    tag = tree[0]
    if tag in ("num", "var"):
        return str(tree[1])
    if tag in ("true", "false"):
        return tag
    if tag == "cell":
        return show_cell(tree[1])
    if tag == "item":
        return tree[1] + "[" + show_expression(tree[2]) + "]"
    if tag == "at":
        return show_cells(tree[1], tree[2]) + "[" + show_expression(tree[3]) + "]"
    if tag == "cond":
        condition, first, second = [show_expression(part) for part in tree[1:]]
        return f"(if {condition} then {first} else {second})"
    return tag + "(" + _show_list(tree[1:]) + ")"


def show_cell(cell):
    """Return the text of a cell."""
    return f"c{cell}"


def show_cells(base, size):
    """Return the text of the cells of an array."""
    return show_cell(base) + ".." + show_cell(base + size - 1)


def _show_list(trees):
    return ", ".join([show_expression(tree) for tree in trees])


def _show_declaration(declaration):
    kind, name, size = declaration
    if kind == "array":
        return f"array {name}[{size}];"
    return f"{kind} {name};"


def _procedure_lines(procedure):
    name, kind, parameters, inner, body, value = procedure
    shown = ", ".join([f"{each} {parameter}" for each, parameter in parameters])
    lines = [f"proc {name}({shown}) {kind}" + " {"]
    lines.extend([f"  {each} {variable};" for each, variable in inner])
    lines.extend(_indented(_block_lines(body)))
    lines.append("  return " + show_expression(value) + ";")
    lines.append("}")
    return lines


def _indented(lines):
    return ["  " + line for line in lines]


def _block_lines(block):
    return [line for statement in block for line in _statement_lines(statement)]


def _braced_lines(head, block):
    """Return the lines of a block with its head, but without its closing brace."""
    return [head + " {", *_indented(_block_lines(block))]


def _statement_lines(statement):
    tag = statement[0]
    if tag == "if":
        return _if_lines(statement)
    if tag == "repeat":
        return _braced_lines(f"repeat {statement[1]}", statement[2]) + ["}"]
    if tag == "while":
        _, condition, count, block = statement
        return _braced_lines(f"while {show_expression(condition)} max {count}", block) + ["}"]
    if tag == "for":
        _, name, low, high, block = statement
        return _braced_lines(f"for {name} from {low} to {high}", block) + ["}"]
    return [_simple_line(statement)]


def _if_lines(statement):
    _, condition, then_block, else_block = statement
    lines = _braced_lines("if " + show_expression(condition), then_block)
    if else_block:
        lines.extend(_braced_lines("} else", else_block))
    lines.append("}")
    return lines


def _simple_line(statement):
    """Return the line of a statement without blocks."""
    tag = statement[0]
    if tag in ("skip", "fail"):
        return tag + ";"
    if tag in ("observe", "assert"):
        return f"{tag} {show_expression(statement[1])};"
    if tag == "weigh":
        return "weigh(" + _show_list(statement[1:]) + ");"
    if tag == "call":
        _, procedure, arguments, target = statement
        return f"call {procedure}({_show_list(arguments)}) to {target};"
    return _assignment_line(statement)


def _assignment_line(statement):
    tag, name = statement[:2]
    if tag == "set":
        return f"{name} := {show_expression(statement[2])};"
    if tag == "store":
        return f"{name}[{show_expression(statement[2])}] := {show_expression(statement[3])};"
    if tag == "pick":
        return f"{name} ~ pick({_show_choices(statement[2])});"
    return f"{name} ~ {tag}(" + _show_list(statement[2:]) + ");"


def _show_choices(pairs):
    return ", ".join([show_choice(v, w) for v, w in pairs])


def show_choice(value, weight):
    """Return the text of a value and its weight."""
    return show_expression(value) + " : " + show_expression(weight)
