"""Proofs: the least table of a system, and the derivations that its items give."""

from fracwalk.derivations import kinds_along, needed_part
from fracwalk.tables import least_table, rows_of


class Proof:
    """The least table of a system, its rows, and an item for each entry."""

    def __init__(self, system):
        self.start = system.start
        self.table, self.made, self.found = least_table(system)
        self.rows = rows_of(self.table)

    def least_way(self, word, state):
        """Return (cost, derivation) of a word from the start to a state, or None if it cannot be read."""
        ways = {self.start: (0, ())}
        for kind in kinds_along(word):
            ways = self.ways_behind(ways, kind)
        if state not in ways:
            return None
        cost, ends = ways[state]
        return (cost, needed_part(self.made, ends))

    def ways_behind(self, ways, kind):
        """Return for each state behind one more entry the least cost and the items up to there."""
        behind = {}
        for state, (cost, ends) in ways.items():
            for after, further in self.rows.get((kind, state), {}).items():
                if after not in behind or cost + further < behind[after][0]:
                    behind[after] = (cost + further, ends + (self.found[(kind, state, after)],))
        return behind

    def derivation_along(self, word, states):
        """Return the derivation of a word whose items lead from each of the states to the next one."""
        ends = [self.found[entry] for entry in zip(kinds_along(word), states, states[1:])]
        return needed_part(self.made, ends)
