"""Splits: values that depend on coins."""

from odds.errors import NoValue


def gather(store, pairs):
    """Return the split that has a value where one of the references of that value is True."""
    references = {}
    for value, a in pairs:
        references.setdefault(value, []).append(a)
    joined = [(value, store.either_of(references[value])) for value in sorted(references)]
    return tuple([(value, a) for value, a in joined if a != 0])


def domain(store, split):
    """Return the function that is True where a split has a value."""
    return store.either_of([a for _, a in split])


def narrow(store, split, a):
    """Return the split that has the same value where a function is True, and none elsewhere."""
    narrowed = [(value, store.both(b, a)) for value, b in split]
    return tuple([(value, b) for value, b in narrowed if b != 0])


def select(store, a, first, second):
    """Return the split that is like one of two others, as a function decides."""
    chosen = [(value, store.both(b, a)) for value, b in first]
    others = [(value, store.without(b, a)) for value, b in second]
    return gather(store, chosen + others)


def where(split, value):
    """Return the reference that belongs to a value, 0 if there is none."""
    for other, a in split:
        if other == value:
            return a
    return 0


def value_under(store, split, bits):
    """Return the value of a split under an assignment."""
    for value, a in split:
        if store.value(a, bits):
            return value
    raise NoValue("the split has no value under this assignment")
