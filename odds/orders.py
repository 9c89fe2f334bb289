"""Diagrams whose coins move to other levels."""


def reorder(store, a, places):
    """Return the function whose coins have moved to the given levels."""
    moved = {0: 0, 1: 1}
    # The parts of a node come before it.
    for each in store.nodes_below(a):
        coin = store.coin(places[store.level(each)])
        moved[each] = store.choose(coin, moved[store.high(each)], moved[store.low(each)])
    return moved[a]


def swap_gain(store, a, level):
    """Return how many nodes a diagram loses if the coins of a level and the next one exchange."""
    rows = {level: [], level + 1: []}
    # Only the nodes of the two levels change, so the exchange need not be made to count them.
    # Those of the second level stay nodes if they are reached from above the first one.
    reached = {a: True}
    for each in store.nodes_below(a):
        own = store.level(each)
        if own < level:
            reached[store.low(each)] = True
            reached[store.high(each)] = True
        elif own in rows:
            rows[own].append(each)
    first_row = [each for each in rows[level + 1] if each in reached]
    second_row = {}
    for each in rows[level]:
        parts = [_parts_behind(store, each, value) for value in (False, True)]
        if parts[0] != parts[1]:
            first_row.append(each)
        for low, high in parts:
            if low != high:
                second_row[(low, high)] = True
    return len(rows[level]) + len(rows[level + 1]) - len(first_row) - len(second_row)


def sift(store, a, levels):
    """Return a diagram with fewer nodes, and the levels to which its coins have moved."""
    places = list(range(levels))
    # The coin that is at each level now.
    coins = list(range(levels))
    for level in range(levels - 1):
        if swap_gain(store, a, level) > 0:
            exchange = list(range(levels))
            exchange[level], exchange[level + 1] = level + 1, level
            a = reorder(store, a, exchange)
            first, second = coins[level], coins[level + 1]
            coins[level], coins[level + 1] = second, first
            places[first], places[second] = level + 1, level
    return (a, places)


def _parts_behind(store, a, value):
    """Return the low and the high part of a node if the coin of the next level has a value."""
    parts = []
    for part in (store.low(a), store.high(a)):
        if part > 1 and store.level(part) == store.level(a) + 1:
            part = store.high(part) if value else store.low(part)
        parts.append(part)
    return tuple(parts)
