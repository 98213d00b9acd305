"""Reading letters through rows of entries or of items."""


class Reading:
    """Rows: a dict from (kind, state) to a dict whose keys are the states behind."""

    def __init__(self, rows):
        self.rows = rows
        self.kept = {}

    def behind(self, state, letter):
        """Return the states behind one more letter."""
        return list(self.rows.get((letter, state), {}))

    def behind_all(self, states, letter):
        """Return the ascending tuple of the states behind one more letter from any state of a tuple."""
        key = (states, letter)
        if key not in self.kept:
            behind = {end: True for state in states for end in self.behind(state, letter)}
            self.kept[key] = tuple(sorted(behind))
        return self.kept[key]
