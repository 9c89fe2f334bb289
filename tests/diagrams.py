"""Functions from coins to booleans as truth tables, beside the diagrams of a store."""

from fractions import Fraction
from itertools import product


def assignments(levels):
    """All assignments of so many coins, in ascending order."""
    return [list(bits) for bits in product((False, True), repeat=levels)]


def walk(store, a, bits):
    """The value of a diagram, found by its parts only."""
    while a > 1:
        a = store.high(a) if bits[store.level(a)] else store.low(a)
    return a == 1


def truth(store, a, levels):
    """The truth table of a diagram: its values under all assignments."""
    return tuple([walk(store, a, bits) for bits in assignments(levels)])


def diagram_of(store, table, level=0):
    """The diagram of a truth table, made by `node` only."""
    if len(table) == 1:
        return int(table[0])
    half = len(table) // 2
    low = diagram_of(store, table[:half], level + 1)
    return store.node(level, low, diagram_of(store, table[half:], level + 1))


def table_number(number, levels):
    """One of the truth tables of so many coins."""
    return tuple([number >> at & 1 == 1 for at in range(2 ** levels)])


def random_table(numbers, levels):
    return tuple([numbers.below(2) == 1 for _ in range(2 ** levels)])


def random_diagram(numbers, store, levels):
    return diagram_of(store, random_table(numbers, levels))


def split_of(store, values, levels):
    """The split that has these values under the assignments, where None stands for no value."""
    assert len(values) == 2 ** levels
    known = sorted({value for value in values if value is not None})
    return tuple([(value, diagram_of(store, tuple([each == value and each is not None
                                                   for each in values])))
                  for value in known])


def values_of(store, split, levels):
    """The values of a split under all assignments, None where it has none."""
    found = []
    for bits in assignments(levels):
        here = [value for value, a in split if walk(store, a, bits)]
        assert len(here) < 2, (split, bits)
        found.append(here[0] if here else None)
    return found


def assert_split(case, split):
    """What point 8.2 asks for, but for overlaps, which `values_of` looks for."""
    case.assertIsInstance(split, tuple)
    for pair in split:
        case.assertIsInstance(pair, tuple)
        case.assertNotEqual(pair[1], 0)
    values = [value for value, _ in split]
    case.assertTrue(all([a < b for a, b in zip(values, values[1:])]), split)


def mass_of(bits, chances):
    """The mass of an assignment (point 9.1)."""
    mass = Fraction(1)
    for bit, chance in zip(bits, chances, strict=True):
        mass *= Fraction(*chance) if bit else 1 - Fraction(*chance)
    return mass


def parts_below(store, a):
    """All nodes that can be reached, found by their parts."""
    seen, waiting = set(), [a]
    while waiting:
        each = waiting.pop()
        if each > 1 and each not in seen:
            seen.add(each)
            waiting.extend([store.low(each), store.high(each)])
    return seen


# Diagrams of many levels.

def conjunction(store, levels):
    """All coins are True; there is one node at each level."""
    a = 1
    for level in reversed(range(levels)):
        a = store.node(level, 0, a)
    return a


def parity(store, levels):
    """The number of coins that are True is odd; there are two nodes at most levels."""
    odd, even = 0, 1
    for level in reversed(range(levels)):
        odd, even = store.node(level, odd, even), store.node(level, even, odd)
    return odd
