"""Second implementations of what part 6 promises, as close to its words as possible."""

from tests.reference import GREATEST


def pair(numbers):
    return (min(numbers), max(numbers))


def clip(numbers):
    return tuple([min(max(number, -GREATEST), GREATEST) for number in numbers])


def hull(spans):
    return (min([span[0] for span in spans]), max([span[1] for span in spans]))


def unclipped(tag, first, second):
    a, b = first
    c, d = second
    if tag == "add":
        return (a + c, b + d)
    if tag == "sub":
        return (a - d, b - c)
    return pair([a * c, a * d, b * c, b * d])


def comparison(tag, first, second):
    a, b = first
    c, d = second
    if tag == "eq":
        if b < c or d < a:
            return (0, 0)
        return (1, 1) if a == b == c == d else (0, 1)
    if tag == "ne":
        if b < c or d < a:
            return (1, 1)
        return (0, 0) if a == b == c == d else (0, 1)
    if tag == "lt":
        return (1, 1) if b < c else (0, 0) if a >= d else (0, 1)
    return (1, 1) if b <= c else (0, 0) if a > d else (0, 1)


def quotients(first, second):
    c, d = second
    if c == d == 0:
        return (0, 0)
    divisors = [k for k in (c, d, -1, 1) if c <= k <= d and k != 0]
    return pair([number // k for number in first for k in divisors])


def remainders(first, second):
    a, b = first
    c, d = second
    if c == d == 0:
        return (0, 0)
    if c == d and a // c == b // c:
        return (a % c, b % c)
    return (min(0, c + 1), max(0, d - 1))


def span(tree, spans):
    """Point 6.2."""
    tag = tree[0]
    if tag == "num":
        return (tree[1], tree[1])
    if tag in ("true", "false"):
        return (1, 1) if tag == "true" else (0, 0)
    if tag == "cell":
        return spans[tree[1]]
    if tag == "at":
        low, high = span(tree[3], spans)
        items = [spans[tree[1] + k] for k in range(tree[2]) if low <= k <= high]
        return hull(items) if items else (0, 0)
    parts = [span(part, spans) for part in tree[1:]]
    if tag == "neg":
        return (-parts[0][1], -parts[0][0])
    if tag == "not":
        return (1 - parts[0][1], 1 - parts[0][0])
    if tag == "cond":
        return {(1, 1): parts[1], (0, 0): parts[2]}.get(parts[0], hull(parts[1:]))
    if tag in ("add", "sub", "mul"):
        return clip(unclipped(tag, *parts))
    if tag == "div":
        return quotients(*parts)
    if tag == "mod":
        return remainders(*parts)
    if tag in ("min", "and"):
        return (min(parts[0][0], parts[1][0]), min(parts[0][1], parts[1][1]))
    if tag in ("max", "or"):
        return (max(parts[0][0], parts[1][0]), max(parts[0][1], parts[1][1]))
    return comparison(tag, *parts)


def safe(tree, spans):
    """Point 6.3."""
    tag = tree[0]
    if tag in ("num", "true", "false", "cell"):
        return True
    if tag == "at":
        low, high = span(tree[3], spans)
        return safe(tree[3], spans) and low >= 0 and high < tree[2]
    parts = [safe(part, spans) for part in tree[1:]]
    first = span(tree[1], spans)
    if tag == "and":
        return parts[0] and (parts[1] or first == (0, 0))
    if tag == "or":
        return parts[0] and (parts[1] or first == (1, 1))
    if tag == "cond":
        return parts[0] and (parts[1] or first == (0, 0)) and (parts[2] or first == (1, 1))
    if tag in ("add", "sub", "mul"):
        exact = unclipped(tag, first, span(tree[2], spans))
        return all(parts) and clip(exact) == exact
    if tag in ("div", "mod"):
        low, high = span(tree[2], spans)
        return all(parts) and not low <= 0 <= high
    return all(parts)


def after(instruction, spans):
    """Point 6.5."""
    guard, tag = instruction[:2]
    certain = guard == -1 or spans[guard] == (1, 1)
    if guard != -1 and spans[guard] == (0, 0):
        return list(spans)
    writes = {}
    if tag == "set":
        writes[instruction[2]] = span(instruction[3], spans)
    elif tag == "flip":
        writes[instruction[2]] = (0, 1)
    elif tag == "pick":
        writes[instruction[2]] = hull([span(value, spans) for value, _ in instruction[3]])
    elif tag == "uniform":
        a, d = span(instruction[3], spans)[0], span(instruction[4], spans)[1]
        writes[instruction[2]] = (a, d) if a <= d else (a, a)
    elif tag == "store":
        low, high = span(instruction[4], spans)
        for k in range(instruction[3]):
            if low <= k <= high:
                writes[instruction[2] + k] = span(instruction[5], spans)
        certain = certain and len(writes) < 2
    elif tag == "split":
        a, b = span(instruction[4], spans)
        writes = {instruction[2]: (a, b), instruction[3]: (1 - b, 1 - a)}
    return [old if cell not in writes else writes[cell] if certain else hull([old, writes[cell]])
            for cell, old in enumerate(spans)]


def trace(flat):
    """Point 6.6."""
    rows = [[(0, 0)] * len(flat[0])]
    for instruction in flat[1]:
        rows.append(after(instruction, rows[-1]))
    return rows


def kind_of(tree, cells):
    if tree[0] == "cond":
        return kind_of(tree[2], cells)
    if tree[0] == "cell":
        return cells[tree[1]]
    truths = ("true", "false", "not", "and", "or", "eq", "ne", "lt", "le")
    return "bool" if tree[0] in truths else "int"


def folded(tree, spans, cells):
    """Point 6.7."""
    low, high = span(tree, spans)
    if safe(tree, spans) and low == high:
        if kind_of(tree, cells) == "bool":
            return ("true",) if low == 1 else ("false",)
        return ("num", low) if low >= 0 else ("neg", ("num", -low))
    parts = [folded(part, spans, cells) if isinstance(part, tuple) else part for part in tree[1:]]
    if tree[0] == "and" and parts[0] == ("true",) or tree[0] == "or" and parts[0] == ("false",):
        return parts[1]
    if tree[0] == "cond" and parts[0] in (("true",), ("false",)):
        return parts[1] if parts[0] == ("true",) else parts[2]
    return (tree[0], *parts)


def trees_of(instruction):
    tag, parts = instruction[1], instruction[2:]
    if tag == "pick":
        return [tree for each in parts[1] for tree in each]
    return [part for part in parts if isinstance(part, tuple)]


def propagated(flat):
    """Point 6.8."""
    cells, code, results = flat
    rows, kept = trace(flat), []
    for instruction, spans in zip(code, rows):
        guard, tag, *parts = instruction
        if guard != -1 and spans[guard] == (0, 0):
            continue
        if guard != -1 and spans[guard] == (1, 1):
            guard = -1
        if tag == "pick":
            parts[1] = tuple([(folded(v, spans, cells), folded(w, spans, cells))
                              for v, w in parts[1]])
        else:
            parts = [folded(part, spans, cells) if isinstance(part, tuple) else part
                     for part in parts]
        if tag not in ("observe", "assert") or parts[0] != ("true",):
            kept.append((guard, tag, *parts))
    return (cells, tuple(kept), tuple([folded(tree, rows[-1], cells) for tree in results]))


def safe_instruction(instruction, spans):
    """Point 6.9."""
    tag, trees = instruction[1], trees_of(instruction)
    if tag in ("observe", "weigh", "assert", "fail", "halt"):
        return False
    found = [span(tree, spans) for tree in trees]
    if not all([safe(tree, spans) for tree in trees]):
        return False
    if tag == "store":
        return found[0][0] >= 0 and found[0][1] < instruction[3]
    if tag == "flip":
        return found[0][0] >= 0 and found[0][1] <= found[1][0] and found[1][0] >= 1
    if tag == "uniform":
        return found[0][1] <= found[1][0] and found[1][1] - found[0][0] <= 63
    if tag == "pick":
        weights = found[1::2]
        return all([low >= 0 for low, _ in weights]) and any([low >= 1 for low, _ in weights])
    return True


def read_cells(trees):
    found = set()
    waiting = list(trees)
    while waiting:
        tree = waiting.pop()
        if tree[0] == "cell":
            found.add(tree[1])
        if tree[0] == "at":
            found.update(range(tree[1], tree[1] + tree[2]))
        waiting.extend([part for part in tree[1:] if isinstance(part, tuple)])
    return found


def live(flat):
    """Points 6.10 and 6.11: the live cells, and the sliced program."""
    cells, code, results = flat
    rows, kept = [read_cells(results)], []
    spans = trace(flat)
    for at in range(len(code) - 1, -1, -1):
        guard, tag, *parts = code[at]
        if tag == "store":
            written = set(range(parts[0], parts[0] + parts[1]))
        else:
            written = set([part for part in parts if isinstance(part, int)])
        behind = rows[-1]
        if safe_instruction(code[at], spans[at]) and not written & behind:
            rows.append(behind)
            continue
        kept.append(code[at])
        gone = written if guard == -1 and tag != "store" else set()
        rows.append(behind - gone | read_cells(trees_of(code[at])) | {guard} - {-1})
    return [sorted(row) for row in reversed(rows)], (cells, tuple(reversed(kept)), results)
