"""Derivations: short proofs that there is a route with a word, and the routes that they stand for."""

from fracwalk.errors import LimitExceeded
from fracwalk.moves import is_integer, is_row_of_integers, is_tuple_of
from fracwalk.tables import is_state
from fracwalk.words import KINDS, multiply_kinds


def derivation_cost(derivation, system, word, state):
    """Return the cost of a derivation of a word from the start to a state, or None for any other value."""
    if not is_tuple_of(derivation, 2):
        return None
    items, ends = derivation
    if not isinstance(items, tuple) or not isinstance(ends, tuple):
        return None
    costs = costs_of_items(items, system)
    if costs is None or not _ends_fit(items, ends, system.start, word, state):
        return None
    return sum([costs[end] for end in ends])


def write_route(derivation, system, *, limit):
    """Return the edges of a right derivation's route, without the prelude's, or raise LimitExceeded.

    The system is not asked: the prelude's edges are those with numbers below 0.
    """
    items, ends = derivation
    counts = _edge_counts(items)
    if sum([counts[end] for end in ends]) > limit:
        raise LimitExceeded(limit)
    shortcuts = _shortcuts(items, counts)
    route = []
    waiting = list(ends[::-1])
    while waiting:
        at = shortcuts[waiting.pop()]
        how = items[at][3]
        if counts[at] == 0:
            continue
        if how[0] == "step":
            route.append(how[1])
        else:
            waiting.extend([how[2], how[1]])
    return tuple(route)


def costs_of_items(items, system):
    """Return the list of the items' costs, or None if one of them is not right."""
    states = {state: True for state in system.states}
    steps = {step[4:]: step[:4] for step in system.steps}
    costs = []
    for item in items:
        cost = None
        if _is_item_between(item, states):
            cost = _cost_of_item(item, items, costs, steps)
        if cost is None:
            return None
        costs.append(cost)
    return costs


def kinds_along(word):
    """Return the kinds of the items that read a word, in order."""
    return list(word) if word != "" else [""]


def needed_part(items, ends):
    """Return the derivation with these ends and with no other items than they need."""
    needed = {}
    waiting = list(ends)
    while waiting:
        index = waiting.pop()
        if index not in needed:
            needed[index] = True
            how = items[index][3]
            if how[0] == "join":
                waiting.extend(how[1:])
    kept = sorted(needed)
    moved = {index: at for at, index in enumerate(kept)}
    return (tuple([_item_moved(items[index], moved) for index in kept]), tuple([moved[end] for end in ends]))


def _is_item_between(item, states):
    """Tell whether any value is a tuple (kind, state, state, how), whatever how is."""
    if not is_tuple_of(item, 4):
        return False
    kind, p, q, _ = item
    return kind in KINDS and is_state(p, states) and is_state(q, states)


def _cost_of_item(item, items, costs, steps):
    """Return the cost of an item, given the costs of those before it, or None if it is not right."""
    kind, p, q, how = item
    if how == ("stay",):
        return 0 if kind == "" and p == q else None
    if not is_tuple_of(how, 3) or not is_row_of_integers(how[1:], 2):
        return None
    if how[0] == "step":
        return _cost_of_step(item, steps.get(how[1:]))
    if how[0] == "join":
        return _cost_of_join(item, items, costs)
    return None


def _cost_of_step(item, step):
    """Return the cost of a step if it is the item's one, else None."""
    if step is None:
        return None
    start, kind, end, cost = step
    return cost if item[:3] == (kind, start, end) else None


def _cost_of_join(item, items, costs):
    """Return the cost of an item that joins two of those with a cost, or None if it is not right."""
    kind, p, q, how = item
    _, one, other = how
    if not (0 <= one < len(costs) and 0 <= other < len(costs)):
        return None
    first, begin, middle = items[one][:3]
    then, between, end = items[other][:3]
    if (begin, middle, end) != (p, between, q) or multiply_kinds(first, then) != kind:
        return None
    return costs[one] + costs[other]


def _ends_fit(items, ends, start, word, state):
    """Tell whether the ends lead along the letters of the word from the start to the state."""
    kinds = kinds_along(word)
    if len(ends) != len(kinds):
        return False
    at = start
    for kind, end in zip(kinds, ends):
        if not is_integer(end) or not 0 <= end < len(items) or items[end][:2] != (kind, at):
            return False
        at = items[end][2]
    return at == state


def _item_moved(item, moved):
    """Return an item whose parts stand at other indices."""
    kind, p, q, how = item
    if how[0] != "join":
        return item
    return (kind, p, q, ("join", moved[how[1]], moved[how[2]]))


def _edge_counts(items):
    """Return for each item how many edges of the machine its route has."""
    counts = []
    for item in items:
        how = item[3]
        if how[0] == "join":
            counts.append(counts[how[1]] + counts[how[2]])
        else:
            # The first step of an edge stands for the edge.
            counts.append(1 if how[0] == "step" and how[1] >= 0 and how[2] == 0 else 0)
    return counts


def _shortcuts(items, counts):
    """Return for each item the index of one with the same edges that joins no part without edges.

    So going down from an item takes no more joins than its route has edges, however deep it is.
    """
    shortcuts = []
    for index, item in enumerate(items):
        how = item[3]
        if how[0] == "join" and counts[how[1]] == 0:
            shortcuts.append(shortcuts[how[2]])
        elif how[0] == "join" and counts[how[2]] == 0:
            shortcuts.append(shortcuts[how[1]])
        else:
            shortcuts.append(index)
    return shortcuts
