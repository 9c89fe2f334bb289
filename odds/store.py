"""Decision diagrams: functions from coins to booleans."""

from odds.errors import NotANode

# So many choices are remembered at most, lest a store that is used for long outgrows the memory.
MOST_CHOICES = 300000


class Store:
    """Holds diagrams, each of which is known by a reference.

    The references 0 and 1 are the constants, and all others are nodes. A node has a greater
    reference than the nodes below it: in ascending order, the parts of a node come before it.
    """

    def __init__(self):
        # The parts of each node, by its reference. The constants have no parts: theirs only fill
        # the first two places, with a level that no node has.
        self._levels = [-1, -1]
        self._lows = [0, 1]
        self._highs = [0, 1]
        self._references = {}
        # What `choose` has returned for three references.
        self._chosen = {}

    def node(self, level, low, high):
        """Return the function that is one of two others, as the coin of a level above decides."""
        if low == high:
            return low
        parts = (level, low, high)
        if parts not in self._references:
            self._references[parts] = len(self._levels)
            self._levels.append(level)
            self._lows.append(low)
            self._highs.append(high)
        return self._references[parts]

    def coin(self, level):
        """Return the function whose value is that of a coin."""
        return self.node(level, 0, 1)

    def level(self, a):
        """Return the level of a node."""
        return self._levels[_checked_node(a)]

    def low(self, a):
        """Return the function that a node is if its coin is False."""
        return self._lows[_checked_node(a)]

    def high(self, a):
        """Return the function that a node is if its coin is True."""
        return self._highs[_checked_node(a)]

    def choose(self, c, a, b):
        """Return the function that is one of two others, as a third one decides."""
        if len(self._chosen) > MOST_CHOICES:
            self._chosen = {}
        asked = (c, a, b)
        # Diagrams may have thousands of levels: no recursion. A choice that is not settled stands
        # on a stack, below those of its two parts that are not settled either.
        pending = [asked] if self._settled(asked) < 0 else []
        while pending:
            choice = pending[-1]
            level, low_part, high_part = self._parts_of(choice)
            low = self._settled(low_part)
            high = self._settled(high_part)
            if low >= 0 and high >= 0:
                self._chosen[choice] = self.node(level, low, high)
                pending.pop()
            if high < 0:
                pending.append(high_part)
            if low < 0:
                pending.append(low_part)
        return self._settled(asked)

    def negate(self, a):
        """Return the negation of a function."""
        return self.choose(a, 0, 1)

    def both(self, a, b):
        """Return the conjunction of two functions."""
        return self.choose(min(a, b), max(a, b), 0)

    def either(self, a, b):
        """Return the disjunction of two functions."""
        return self.choose(min(a, b), 1, max(a, b))

    def without(self, a, b):
        """Return the conjunction of a function and the negation of another one."""
        return self.choose(b, 0, a)

    def either_of(self, references):
        """Return the disjunction of a list of functions."""
        found = 0
        for a in references:
            found = self.either(found, a)
        return found

    def restrict(self, a, level, value):
        """Return what a function becomes if the coin of a level has the given value."""
        become = {0: 0, 1: 1}
        for each in self.nodes_below(a):
            if self._levels[each] > level:
                become[each] = each
            elif self._levels[each] == level:
                become[each] = self._highs[each] if value else self._lows[each]
            else:
                low, high = become[self._lows[each]], become[self._highs[each]]
                become[each] = self.node(self._levels[each], low, high)
        return become[a]

    def value(self, a, bits):
        """Return the value of a function under an assignment."""
        while a > 1:
            a = self._highs[a] if bits[self._levels[a]] else self._lows[a]
        return a == 1

    def support(self, a):
        """Return the ascending list of the levels on which a function depends."""
        return sorted({self._levels[each] for each in self.nodes_below(a)})

    def nodes_below(self, a):
        """Return the ascending list of the nodes that can be reached from a diagram."""
        return self.nodes_below_all([a])

    def nodes_below_all(self, references):
        """Return the ascending list of the nodes that can be reached from several diagrams."""
        seen = {}
        waiting = list(references)
        while waiting:
            a = waiting.pop()
            if a > 1 and a not in seen:
                seen[a] = True
                waiting.append(self._lows[a])
                waiting.append(self._highs[a])
        return sorted(seen)

    def models(self, a, levels):
        """Return the number of assignments of the first levels for which a function is True."""
        # The numbers of the assignments of the levels from that of a node on.
        many = {0: 0, 1: 1}
        for each in self.nodes_below(a):
            many[each] = 0
            for part in (self._lows[each], self._highs[each]):
                skipped = self._level_below(part, levels) - self._levels[each] - 1
                many[each] += many[part] << skipped
        return many[a] << self._level_below(a, levels)

    def same_as(self, a, other, b):
        """Tell whether a function is that of a reference of another store."""
        found = {0: 0, 1: 1}
        waiting = [(a, b)]
        while waiting:
            a, b = waiting.pop()
            if a not in found:
                if b < 2 or self._levels[a] != other.level(b):
                    return False
                found[a] = b
                waiting.append((self._lows[a], other.low(b)))
                waiting.append((self._highs[a], other.high(b)))
            elif found[a] != b:
                return False
        return True

    def _settled(self, choice):
        """Return the reference of a choice if it is known without looking at nodes, or else -1."""
        c, a, b = choice
        if c < 2:
            return a if c == 1 else b
        # Where `c` is chosen itself, its value is known.
        if a == c:
            a = 1
        if b == c:
            b = 0
        if a == b:
            return a
        if a == 1 and b == 0:
            return c
        return self._chosen.get(choice, -1)

    def _parts_of(self, choice):
        """Return the top level of a choice, and what it is if the coin is False, and if True."""
        levels, lows, highs = self._levels, self._lows, self._highs
        c, a, b = choice
        level = levels[c]
        if -1 < levels[a] < level:
            level = levels[a]
        if -1 < levels[b] < level:
            level = levels[b]
        low_c, high_c = (lows[c], highs[c]) if levels[c] == level else (c, c)
        low_a, high_a = (lows[a], highs[a]) if levels[a] == level else (a, a)
        low_b, high_b = (lows[b], highs[b]) if levels[b] == level else (b, b)
        return level, (low_c, low_a, low_b), (high_c, high_a, high_b)

    def _level_below(self, a, levels):
        """Return the level of a node, and the number of all levels for a constant."""
        return self._levels[a] if a > 1 else levels


def _checked_node(a):
    if a < 2:
        raise NotANode("a constant diagram has no parts")
    return a
