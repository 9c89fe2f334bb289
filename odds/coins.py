"""Coins for the alternatives of draws."""

from odds.ratios import ZERO, ratio


class Coins:
    """Hands out the coins of a store, which are independent, with their chances of being True."""

    def __init__(self, store):
        self._store = store
        self._chances = []

    def fresh(self, chance):
        """Hand out the next coin, and return its function."""
        self._chances.append(chance)
        return self._store.coin(len(self._chances) - 1)

    def chances(self):
        """Return the list of the chances of all coins handed out so far."""
        return list(self._chances)

    def alternatives(self, weights):
        """Hand out coins for a draw, and return the list of the functions of its alternatives."""
        guards = []
        # Where no earlier alternative is chosen, and the weight that is left there.
        open_part = 1
        left = sum(weights)
        for weight in weights[:-1]:
            coin = self.fresh(ratio(weight, left) if left > 0 else ZERO)
            guards.append(self._store.both(open_part, coin))
            open_part = self._store.without(open_part, coin)
            left -= weight
        return [*guards, open_part]
