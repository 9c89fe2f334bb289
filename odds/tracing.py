"""The spans of all cells from instruction to instruction."""

from odds.spans import ALWAYS, NEVER, UNKNOWN, hull, indexes_in, span_of


def is_certain(guard, spans):
    """Tell whether the spans show that a guard holds."""
    return guard == -1 or spans[guard] == ALWAYS


def is_impossible(guard, spans):
    """Tell whether the spans show that a guard does not hold."""
    return guard != -1 and spans[guard] == NEVER


def spans_after(instruction, spans):
    """Return the list of the spans after an instruction."""
    after = list(spans)
    guard = instruction[0]
    if is_impossible(guard, spans):
        return after
    writes = _writes_of(instruction, spans)
    # Of several items of an array, only one is written, and the others keep their values.
    surely = is_certain(guard, spans) and (instruction[1] != "store" or len(writes) == 1)
    for cell, span in writes:
        after[cell] = span if surely else hull([spans[cell], span])
    return after


def trace_spans(flat):
    """Return the lists of spans before each instruction, and before the results."""
    cells, code, _ = flat
    trace = [[NEVER for _ in cells]]
    for instruction in code:
        trace.append(spans_after(instruction, trace[-1]))
    return trace


def _writes_of(instruction, spans):
    """Return the list of the cells that an instruction may write, with their new spans."""
    tag = instruction[1]
    if tag == "set":
        return [(instruction[2], span_of(instruction[3], spans))]
    if tag == "flip":
        return [(instruction[2], UNKNOWN)]
    if tag == "uniform":
        return [(instruction[2], _uniform_span(instruction, spans))]
    if tag == "pick":
        return [(instruction[2], hull([span_of(value, spans) for value, _ in instruction[3]]))]
    if tag == "split":
        _, _, yes, no, tree = instruction
        low, high = span_of(tree, spans)
        return [(yes, (low, high)), (no, (1 - high, 1 - low))]
    if tag == "store":
        _, _, base, size, index, tree = instruction
        span = span_of(tree, spans)
        return [(base + at, span) for at in indexes_in(span_of(index, spans), size)]
    return []


def _uniform_span(instruction, spans):
    low, _ = span_of(instruction[3], spans)
    _, high = span_of(instruction[4], spans)
    return (low, high) if low <= high else (low, low)
