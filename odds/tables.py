"""Tables: ascending lists of pairs of a key and a mass greater than zero."""

from odds.errors import EmptyTable, NoSuchPlace
from odds.ratios import ZERO, over, plus, plus_all, times


def tabulate(entries):
    """Return the table of the sums of the masses of each key."""
    sums = {}
    for key, mass in entries:
        sums[key] = plus(sums.get(key, ZERO), mass)
    return [(key, sums[key]) for key in sorted(sums) if sums[key] != ZERO]


def mass_at(table, key):
    """Return the mass of a key, zero if the table does not have it."""
    for other, mass in table:
        if other == key:
            return mass
    return ZERO


def table_total(table):
    """Return the sum of all masses."""
    return plus_all([mass for _, mass in table])


def scaled(table, factor):
    """Return the table with every mass multiplied by a factor."""
    if factor == ZERO:
        return []
    return [(key, times(mass, factor)) for key, mass in table]


def joined(first, second):
    """Return the table of the sums of the masses in two tables."""
    return tabulate([*first, *second])


def normalized(table):
    """Return the table with every mass divided by the total."""
    if not table:
        raise EmptyTable("an empty table has no total to divide by")
    total = table_total(table)
    return [(key, over(mass, total)) for key, mass in table]


def projected(table, places):
    """Return the table of the items of the keys at the given places."""
    _check_places(table, places)
    return tabulate([(tuple([key[place] for place in places]), mass) for key, mass in table])


def mean(table, place):
    """Return the sum of each mass times the item of its key at a place."""
    _check_places(table, [place])
    return plus_all([times(mass, (int(key[place]), 1)) for key, mass in table])


def _check_places(table, places):
    # The keys of an empty table have no known length, so any place will do.
    if not table:
        return
    length = len(table[0][0])
    for place in places:
        if place < 0 or place >= length:
            raise NoSuchPlace("the keys have no item at this place")
