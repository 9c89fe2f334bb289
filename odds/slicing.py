"""Flat programs without the instructions that do not matter."""

from odds.flat import cells_in
from odds.folding import propagate
from odds.instructions import instruction_expressions, is_array_write, written_cells
from odds.spans import is_inside, judge
from odds.tracing import trace_spans

GREATEST_DISTANCE = 63


def is_safe_instruction(instruction, spans):
    """Tell whether the spans show that an instruction cannot end a run."""
    tag = instruction[1]
    if tag in ("observe", "weigh", "assert", "fail", "halt"):
        return False
    judged = [judge(tree, spans) for tree in instruction_expressions(instruction)]
    if not all([safe for _, safe in judged]):
        return False
    found = [span for span, _ in judged]
    if tag == "store":
        return is_inside(found[0], instruction[3])
    if tag == "flip":
        (a, b), (c, _) = found
        return a >= 0 and b <= c and c >= 1
    if tag == "uniform":
        (a, b), (c, d) = found
        return b <= c and d - a <= GREATEST_DISTANCE
    if tag == "pick":
        lows = [low for low, _ in found[1::2]]
        return min(lows) >= 0 and max(lows) >= 1
    # A `set` or a `split`.
    return True


def live_cells(flat):
    """Return the ascending lists of live cells before each instruction and before the results."""
    rows, _ = _scan(flat)
    return rows


def slice_flat(flat):
    """Return the flat program with the needed instructions only."""
    cells, code, results = flat
    _, needed = _scan(flat)
    kept = [instruction for instruction, is_needed in zip(code, needed) if is_needed]
    return (cells, tuple(kept), results)


def thin(flat):
    """Return the flat program, simplified and sliced."""
    return slice_flat(propagate(flat))


def _scan(flat):
    """Return the lists of live cells at each place, and whether each instruction is needed."""
    _, code, results = flat
    trace = trace_spans(flat)
    live = _read_cells(results)
    rows = [sorted(live)]
    needed = []
    for instruction, spans in reversed(list(zip(code, trace))):
        is_needed = _is_needed(instruction, spans, live)
        if is_needed:
            live = _live_before(instruction, live)
        needed.append(is_needed)
        rows.append(sorted(live))
    return (rows[::-1], needed[::-1])


def _read_cells(trees):
    """Return a dict whose keys are the cells that expressions may read."""
    return {cell: True for tree in trees for cell in cells_in(tree)}


def _is_needed(instruction, spans, live):
    if any([cell in live for cell in written_cells(instruction)]):
        return True
    return not is_safe_instruction(instruction, spans)


def _live_before(instruction, live):
    """Return the cells that are live before a needed instruction, by those live behind it."""
    guard = instruction[0]
    gone = {}
    if guard == -1 and not is_array_write(instruction):
        gone = {cell: True for cell in written_cells(instruction)}
    before = {cell: True for cell in live if cell not in gone}
    before.update(_read_cells(instruction_expressions(instruction)))
    if guard != -1:
        before[guard] = True
    return before
