"""Tables: what the paths of steps between two states cost at least, by the kind of their move."""

from heapq import heappop, heappush

from fracwalk.moves import is_integer, is_row_of_integers, is_tuple_of
from fracwalk.words import KINDS, multiply_kinds


def least_table(system):
    """Return (table, items, found): the least table, and for each entry an item of its cost."""
    closing = Closing()
    reached = _states_led_to(system)
    for state in reached:
        closing.offer(("", state, state), 0, ("stay",))
    for start, kind, end, cost, edge, index in system.steps:
        if start in reached:
            closing.offer((kind, start, end), cost, ("step", edge, index))
    closing.settle_all()
    return (closing.least, tuple(closing.made), closing.found)


def is_closed(table, system):
    """Tell whether any value is a closed table of a system."""
    if not isinstance(table, dict):
        return False
    entries = entries_in_base(table, system)
    return (
        ("", system.start, system.start) in entries
        and all([_is_cost(cost) for cost in entries.values()])
        and all([entries[("", p, p)] == 0 for p in _base_of(entries)])
        and _steps_hold(entries, system)
        and _joins_hold(entries)
    )


def reading_cost(table, system, word, state):
    """Return the reading cost of a reduced word from the start to a state, or None."""
    entries = entries_in_base(table, system)
    if word == "":
        return entries.get(("", system.start, state))
    rows = rows_of(entries)
    costs = {system.start: 0}
    for letter in word:
        costs = _costs_behind(costs, letter, rows)
    return costs.get(state)


def entries_in_base(table, system):
    """Return the table's entries of the four kinds between states of its base."""
    states = {state: True for state in system.states}
    entries = {key: table[key] for key in table if _is_triple(key, states)}
    base = {p: True for p in states if ("", p, p) in entries}
    return {key: entries[key] for key in entries if key[1] in base and key[2] in base}


def rows_of(entries):
    """Return a dict from (kind, state) to a dict from states to the costs of entries."""
    rows = {}
    for (kind, p, q), cost in entries.items():
        rows.setdefault((kind, p), {})[q] = cost
    return rows


class Closing:
    """Entries that are settled one after another, in the order of their costs.

    An entry that is settled has its least cost: whatever is offered later comes from
    joins with a settled entry, which cost at least as much.
    """

    def __init__(self):
        self.least = {}
        self.queue = []
        self.made = []
        self.found = {}
        self.leaving = {}
        self.entering = {}
        self.joined_before = {kind: _joined_before(kind) for kind in KINDS}
        self.joined_behind = {kind: _joined_behind(kind) for kind in KINDS}

    def offer(self, entry, cost, how):
        """Take up an item for an entry if it costs less than those before."""
        if entry not in self.least or cost < self.least[entry]:
            self.least[entry] = cost
            heappush(self.queue, (cost, entry, how))

    def settle_all(self):
        """Settle entries until joins lead to no other entry."""
        while self.queue:
            cost, entry, how = heappop(self.queue)
            if entry not in self.found:
                self.settle(entry, cost, how)

    def settle(self, entry, cost, how):
        """Make the item of an entry, and offer its joins with the settled ones."""
        kind, start, end = entry
        index = len(self.made)
        self.found[entry] = index
        self.made.append((kind, start, end, how))
        self.leaving.setdefault((kind, start), []).append((end, cost, index))
        self.entering.setdefault((kind, end), []).append((start, cost, index))
        for then, joined in self.joined_behind[kind]:
            for last, further, other in self.leaving.get((then, end), []):
                self.offer((joined, start, last), cost + further, ("join", index, other))
        for before, joined in self.joined_before[kind]:
            for first, further, other in self.entering.get((before, start), []):
                self.offer((joined, first, end), further + cost, ("join", other, index))


def is_state(value, states):
    """Tell whether any value is a state that is a key of the dict of states."""
    # Looked at first, as (0, True) would be found among the keys as (0, 1).
    return is_row_of_integers(value, 2) and value in states


def _joined_behind(kind):
    """Return the pairs (then, joined): the kind and then multiply to joined."""
    pairs = [(then, multiply_kinds(kind, then)) for then in KINDS]
    return [(then, joined) for then, joined in pairs if joined is not None]


def _joined_before(kind):
    """Return the pairs (before, joined): before and the kind multiply to joined."""
    pairs = [(before, multiply_kinds(before, kind)) for before in KINDS]
    return [(before, joined) for before, joined in pairs if joined is not None]


def _states_led_to(system):
    """Return a dict of the states to which steps lead from the start."""
    reached = {system.start: True}
    waiting = [system.start]
    while waiting:
        state = waiting.pop()
        for step in system.steps:
            if step[0] == state and step[2] not in reached:
                reached[step[2]] = True
                waiting.append(step[2])
    return reached


def _is_cost(value):
    """Tell whether a value is an integer from 0 on."""
    return is_integer(value) and value >= 0


def _is_triple(key, states):
    """Tell whether a key of any kind is a triple (kind, state, state)."""
    if not is_tuple_of(key, 3):
        return False
    kind, p, q = key
    return kind in KINDS and is_state(p, states) and is_state(q, states)


def _base_of(entries):
    """Return the base, given the entries between its states."""
    return [p for kind, p, q in entries if kind == "" and p == q]


def _steps_hold(entries, system):
    """Tell whether each step from the base has an entry of at most its cost."""
    base = {p: True for p in _base_of(entries)}
    for step in system.steps:
        start, kind, end, cost = step[:4]
        if start in base and entries.get((kind, start, end), cost + 1) > cost:
            return False
    return True


def _joins_hold(entries):
    """Tell whether any two entries that join have an entry of at most their sum."""
    rows = rows_of(entries)
    behind = {kind: _joined_behind(kind) for kind in KINDS}
    for (kind, p, m), cost in entries.items():
        for then, joined in behind[kind]:
            held = rows.get((joined, p), {})
            for q, further in rows.get((then, m), {}).items():
                if q not in held or held[q] > cost + further:
                    return False
    return True


def _costs_behind(costs, letter, rows):
    """Return the least costs of the states behind one more letter."""
    behind = {}
    for state, cost in costs.items():
        for end, further in rows.get((letter, state), {}).items():
            if end not in behind or cost + further < behind[end]:
                behind[end] = cost + further
    return behind
