"""Weighted counting: the masses of the assignments for which diagrams are True."""

from odds.errors import NoEvidence
from odds.ratios import ONE, ZERO, compare, minus, over, plus, rest, times, times_all


def count(store, a, chances):
    """Return the mass of the assignments for which a diagram is True."""
    return counts(store, [a], chances)[0]


def counts(store, references, chances):
    """Return the list of the masses of several diagrams."""
    masses = {0: ZERO, 1: ONE}
    # The parts of a node come before it.
    for each in store.nodes_below_all(references):
        c = chances[store.level(each)]
        low, high = masses[store.low(each)], masses[store.high(each)]
        masses[each] = plus(times(rest(c), low), times(c, high))
    return [masses[a] for a in references]


def count_given(store, a, b, chances):
    """Return the mass of a diagram, given that another one is True."""
    joint, given = counts(store, [store.both(a, b), b], chances)
    if given == ZERO:
        raise NoEvidence("the condition has no mass")
    return over(joint, given)


def slope(store, a, chances, level):
    """Return how much more mass a diagram has if a coin is True than if it is False."""
    restricted = [store.restrict(a, level, value) for value in (True, False)]
    high, low = counts(store, restricted, chances)
    return minus(high, low)


def likeliest(store, a, chances):
    """Return the assignment of greatest mass for which a diagram is True, and its mass."""
    if a == 0:
        raise NoEvidence("the diagram is True for no assignment")
    scores = _scores(store, a, chances)
    # If all masses are zero, any assignment will do for which the diagram is True.
    impossible = scores[a] == ZERO
    bits = []
    for level, c in enumerate(chances):
        low, high = a, a
        if a > 1 and store.level(a) == level:
            low, high = store.low(a), store.high(a)
        if impossible:
            bit = low == 0
        else:
            bit = compare(times(rest(c), scores[low]), times(c, scores[high])) < 0
        bits.append(bit)
        a = high if bit else low
    mass = times_all([c if bit else rest(c) for c, bit in zip(chances, bits)])
    return (bits, mass)


def _scores(store, a, chances):
    """Return, for each node, the greatest mass of an assignment that makes it True.

    It is divided by the greatest mass of all assignments, so levels between a node and its parts
    do not count.
    """
    scores = {0: ZERO, 1: ONE}
    for each in store.nodes_below(a):
        c = chances[store.level(each)]
        low = times(rest(c), scores[store.low(each)])
        high = times(c, scores[store.high(each)])
        scores[each] = over(_greater(low, high), _greater(rest(c), c))
    return scores


def _greater(first, second):
    return second if compare(first, second) < 0 else first
