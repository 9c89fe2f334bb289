"""The weights of the alternatives of draws, and their chances."""

from odds.errors import Fault
from odds.ratios import ratio

GREATEST_WIDTH = 64


def flip_weights(a, b):
    """Return the weights of True and False for a chance of a in b."""
    if b < 1 or a < 0 or a > b:
        raise Fault("a flip has no such chance")
    return (a, b - a)


def uniform_weights(low, high):
    """Return a weight of 1 for each integer from the low to the high one."""
    width = high - low + 1
    if width < 1 or width > GREATEST_WIDTH:
        raise Fault("a draw has too few or too many integers")
    return (1,) * width


def pick_weights(weights):
    """Return the weights themselves, if a draw may have them."""
    if sum(weights) < 1 or min(weights) < 0:
        raise Fault("a draw may not have these weights")
    return weights


def chance(weights, k):
    """Return the chance of an alternative."""
    return ratio(weights[k], sum(weights))


def is_draw(statement):
    """Tell whether a statement draws."""
    return statement[0] in ("flip", "uniform", "pick", "weigh")


def draw_parameters(statement):
    """Return the list of the expressions by whose values a statement draws."""
    if statement[0] == "pick":
        return [weight for _, weight in statement[2]]
    # The two expressions stand behind the target, but `weigh` has none.
    return list(statement[-2:])


def draw_weights(statement, values):
    """Return the weights of a draw whose parameters have the given tuple of values."""
    tag = statement[0]
    if tag == "pick":
        return pick_weights(values)
    if tag == "uniform":
        return uniform_weights(*values)
    return flip_weights(*values)
