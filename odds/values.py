"""The values of expressions."""

from odds.errors import Fault

LIMIT = 999999999


def in_range(number):
    """Tell whether an integer is in range."""
    return -LIMIT <= number <= LIMIT


def evaluate(tree, values):
    """Return the value of an expression under the values of its names.

    Cells and arrays of cells are values, too: for a flat expression, `values` is a state.
    """
    tag = tree[0]
    if tag == "num":
        return tree[1]
    if tag in ("var", "cell"):
        return values[tree[1]]
    if tag in OPERATIONS:
        operation = OPERATIONS[tag]
        return operation(evaluate(tree[1], values), evaluate(tree[2], values))
    if tag in ("and", "or", "cond"):
        return _evaluate_in_part(tree, values)
    if tag == "item":
        array = values[tree[1]]
        return array[checked_index(evaluate(tree[2], values), len(array))]
    if tag == "at":
        return values[tree[1] + checked_index(evaluate(tree[3], values), tree[2])]
    if tag == "neg":
        return -evaluate(tree[1], values)
    if tag == "not":
        return not evaluate(tree[1], values)
    return tag == "true"


def checked_index(index, size):
    """Return the index of an item if an array of a size has it."""
    if index < 0 or index >= size:
        raise Fault("an array has no such item")
    return index


def _evaluate_in_part(tree, values):
    """Return the value of an expression that need not evaluate all of its parts."""
    tag = tree[0]
    if tag == "and":
        return evaluate(tree[1], values) and evaluate(tree[2], values)
    if tag == "or":
        return evaluate(tree[1], values) or evaluate(tree[2], values)
    if evaluate(tree[1], values):
        return evaluate(tree[2], values)
    return evaluate(tree[3], values)


def _checked(number):
    if not in_range(number):
        raise Fault("a result is not in range")
    return number


def _checked_divisor(number):
    if number == 0:
        raise Fault("a divisor is zero")
    return number


# The operations below evaluate all of their operands.

def _add(a, b):
    return _checked(a + b)


def _subtract(a, b):
    return _checked(a - b)


def _multiply(a, b):
    return _checked(a * b)


def _divide(a, b):
    return a // _checked_divisor(b)


def _modulo(a, b):
    return a % _checked_divisor(b)


def _least(a, b):
    return min(a, b)


def _greatest(a, b):
    return max(a, b)


def _is_equal(a, b):
    return a == b


def _is_different(a, b):
    return a != b


def _is_less(a, b):
    return a < b


def _is_at_most(a, b):
    return a <= b


OPERATIONS = {
    "add": _add, "sub": _subtract, "mul": _multiply, "div": _divide, "mod": _modulo,
    "min": _least, "max": _greatest, "eq": _is_equal, "ne": _is_different, "lt": _is_less,
    "le": _is_at_most,
}
