"""Texts that show flat programs."""

from odds.printer import show_cell, show_cells, show_choice, show_expression


def list_flat(flat):
    """Return the text of a flat program."""
    cells, code, results = flat
    lines = [f"cell {number} {kind}" for number, kind in enumerate(cells)]
    lines.extend([_instruction_line(instruction) for instruction in code])
    lines.append(_with_parts("return", [show_expression(tree) for tree in results]))
    return "".join([line + "\n" for line in lines])


def _with_parts(head, parts):
    if not parts:
        return head
    return head + " " + ", ".join(parts)


def _instruction_line(instruction):
    guard, tag = instruction[:2]
    shown = "-" if guard == -1 else show_cell(guard)
    return _with_parts(f"{shown} {tag}", _parts_of_instruction(instruction))


def _parts_of_instruction(instruction):
    """Return the list of the texts of the parts of an instruction."""
    tag = instruction[1]
    if tag == "store":
        _, _, base, size, index, tree = instruction
        return [show_cells(base, size), show_expression(index), show_expression(tree)]
    if tag == "pick":
        _, _, cell, pairs = instruction
        return [show_cell(cell), *[show_choice(value, weight) for value, weight in pairs]]
    # The parts of the other instructions are cells, which are integers, and expressions.
    return [
        show_expression(part) if isinstance(part, tuple) else show_cell(part)
        for part in instruction[2:]
    ]
