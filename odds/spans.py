"""Spans of the values of flat expressions, and whether the expressions may fault."""

from odds.values import LIMIT, in_range

NEVER = (0, 0)
ALWAYS = (1, 1)
UNKNOWN = (0, 1)


def span_of(tree, spans):
    """Return the span of a flat expression."""
    span, _ = judge(tree, spans)
    return span


def is_safe(tree, spans):
    """Tell whether the spans show that a flat expression cannot fault."""
    _, safe = judge(tree, spans)
    return safe


def judge(tree, spans):
    """Return the span of a flat expression, and whether it is safe."""
    tag = tree[0]
    if tag == "num":
        return (tree[1], tree[1]), True
    if tag == "cell":
        return spans[tree[1]], True
    if tag == "true":
        return ALWAYS, True
    if tag == "false":
        return NEVER, True
    if tag == "at":
        return _judge_item(tree, spans)
    if tag == "cond":
        return _judge_choice(tree, spans)
    (a, b), safe = judge(tree[1], spans)
    if tag == "neg":
        return (-b, -a), safe
    if tag == "not":
        return (1 - b, 1 - a), safe
    second, second_safe = judge(tree[2], spans)
    return _judge_operation(tag, (a, b), safe, second, second_safe)


def hull(spans):
    """Return the hull of one or more spans."""
    return (min([low for low, _ in spans]), max([high for _, high in spans]))


def is_inside(span, size):
    """Tell whether an array of a size has an item for each index in a span."""
    return span[0] >= 0 and span[1] < size


def indexes_in(span, size):
    """Return the list of the indexes of an array of a size that lie in a span."""
    return list(range(max(span[0], 0), min(span[1] + 1, size)))


def _judge_item(tree, spans):
    _, base, size, index = tree
    span, safe = judge(index, spans)
    found = [spans[base + at] for at in indexes_in(span, size)]
    return (hull(found) if found else NEVER), safe and is_inside(span, size)


def _judge_choice(tree, spans):
    condition, condition_safe = judge(tree[1], spans)
    first, first_safe = judge(tree[2], spans)
    second, second_safe = judge(tree[3], spans)
    if condition == ALWAYS:
        return first, condition_safe and first_safe
    if condition == NEVER:
        return second, condition_safe and second_safe
    return hull([first, second]), condition_safe and first_safe and second_safe


def _judge_operation(tag, first, first_safe, second, second_safe):
    """Return the span and the safety of an operation, from those of its operands."""
    operation = OPERATIONS[tag]
    span = operation(first, second)
    if tag == "and":
        return span, first_safe and (second_safe or first == NEVER)
    if tag == "or":
        return span, first_safe and (second_safe or first == ALWAYS)
    safe = first_safe and second_safe
    if tag in ("div", "mod"):
        return span, safe and not second[0] <= 0 <= second[1]
    # Only sums, differences and products may go beyond the range.
    return (_clip(span[0]), _clip(span[1])), safe and in_range(span[0]) and in_range(span[1])


def _clip(number):
    return max(-LIMIT, min(number, LIMIT))


# Each operation below returns the span of its values, not clipped.

def _add(first, second):
    return (first[0] + second[0], first[1] + second[1])


def _subtract(first, second):
    return (first[0] - second[1], first[1] - second[0])


def _multiply(first, second):
    products = [a * c for a in first for c in second]
    return (min(products), max(products))


def _divide(first, second):
    low, high = second
    if second == NEVER:
        return NEVER
    # The quotients are greatest and least by the divisors at the ends and those next to zero.
    divisors = [c for c in (low, high, -1, 1) if low <= c <= high and c != 0]
    quotients = [a // c for a in first for c in divisors]
    return (min(quotients), max(quotients))


def _modulo(first, second):
    low, high = second
    if second == NEVER:
        return NEVER
    if low == high and first[0] // low == first[1] // low:
        return (first[0] % low, first[1] % low)
    return (min(0, low + 1), max(0, high - 1))


def _least(first, second):
    return (min(first[0], second[0]), min(first[1], second[1]))


def _greatest(first, second):
    return (max(first[0], second[0]), max(first[1], second[1]))


def _negated(span):
    return (1 - span[1], 1 - span[0])


def _equal(first, second):
    if first[1] < second[0] or second[1] < first[0]:
        return NEVER
    if first[0] == first[1] == second[0] == second[1]:
        return ALWAYS
    return UNKNOWN


def _different(first, second):
    return _negated(_equal(first, second))


def _less(first, second):
    if first[1] < second[0]:
        return ALWAYS
    if first[0] >= second[1]:
        return NEVER
    return UNKNOWN


def _at_most(first, second):
    return _negated(_less(second, first))


OPERATIONS = {
    "add": _add, "sub": _subtract, "mul": _multiply, "div": _divide, "mod": _modulo,
    "min": _least, "max": _greatest, "eq": _equal, "ne": _different, "lt": _less,
    "le": _at_most, "and": _least, "or": _greatest,
}
