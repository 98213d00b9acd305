"""The conditions of points 10, 12, 13, 15, 16 and 17, one after another, for any values and small machines."""

from tests.helpers import begins_as_value_word, reduced_slowly
from tests.machine_helpers import KINDS, PRODUCTS

MARKS = {"moves": {"start", "s", "r", "R"}, "values": {"start", "first", "s", "r", "R"}}


def is_int(value):
    return type(value) is int


def is_tuple(value, length):
    return type(value) is tuple and len(value) == length


def is_state(value, system):
    return is_tuple(value, 2) and all(is_int(part) for part in value) and value in system.states


def base_entries(table, system):
    """The entries of the four kinds between states of the base, for a dict with any keys."""
    entries = {}
    for key, worth in table.items():
        if is_tuple(key, 3) and type(key[0]) is str and key[0] in KINDS:
            if is_state(key[1], system) and is_state(key[2], system):
                entries[key] = worth
    base = {p for p in system.states if ("", p, p) in entries}
    return {key: worth for key, worth in entries.items() if key[1] in base and key[2] in base}


def is_closed_table(table, system):
    if type(table) is not dict:
        return False
    entries = base_entries(table, system)
    base = {p for p in system.states if ("", p, p) in entries}
    if system.start not in base or any(not is_int(worth) or worth < 0 for worth in entries.values()):
        return False
    if any(entries["", p, p] != 0 for p in base):
        return False
    for p, kind, q, cost, _, _ in system.steps:
        if p in base and not ((kind, p, q) in entries and entries[kind, p, q] <= cost):
            return False
    behind = {}
    for (kind, p, q), cost in entries.items():
        behind.setdefault(p, []).append((kind, q, cost))
    for (x, p, m), one in entries.items():
        for y, q, other in behind.get(m, []):
            if (x, y) in PRODUCTS:
                key = (PRODUCTS[x, y], p, q)
                if key not in entries or entries[key] > one + other:
                    return False
    return True


def reading(table, system, word, state):
    """The reading cost in a closed table, or None."""
    entries = base_entries(table, system)
    costs = {system.start: 0}
    for kind in list(word) or [""]:
        behind = {}
        for (x, p, q), cost in entries.items():
            if x == kind and p in costs:
                behind[q] = min(behind.get(q, costs[p] + cost), costs[p] + cost)
        costs = behind
    return costs.get(state)


def item_costs(items, system):
    """The costs of the items, or None if one is not right."""
    if type(items) is not tuple:
        return None
    steps = {(edge, index): (kind, p, q, cost) for p, kind, q, cost, edge, index in system.steps}
    costs = []
    for at, item in enumerate(items):
        if not is_tuple(item, 4) or type(item[0]) is not str or item[0] not in KINDS:
            return None
        kind, p, q, how = item
        if not is_state(p, system) or not is_state(q, system) or type(how) is not tuple or not how:
            return None
        if not all(is_int(part) for part in how[1:]):
            return None
        if how == ("stay",) and kind == "" and p == q:
            costs.append(0)
        elif len(how) == 3 and how[0] == "step" and steps.get(how[1:], ())[:3] == (kind, p, q):
            costs.append(steps[how[1:]][3])
        elif len(how) == 3 and how[0] == "join" and 0 <= how[1] < at and 0 <= how[2] < at:
            (x, begin, middle, _), (y, between, end, _) = items[how[1]], items[how[2]]
            if (begin, middle, end) != (p, between, q) or PRODUCTS.get((x, y)) != kind:
                return None
            costs.append(costs[how[1]] + costs[how[2]])
        else:
            return None
    return costs


def cost_of_derivation(derivation, system, word, state, start=None):
    """The cost of a derivation of a word, or None for any other value."""
    if not is_tuple(derivation, 2) or type(derivation[1]) is not tuple:
        return None
    items, ends = derivation
    costs = item_costs(items, system)
    kinds = list(word) or [""]
    if costs is None or len(ends) != len(kinds):
        return None
    at = system.start if start is None else start
    for kind, end in zip(kinds, ends):
        if not is_int(end) or not 0 <= end < len(items) or items[end][:2] != (kind, at):
            return None
        at = items[end][2]
    return sum(costs[end] for end in ends) if at == state else None


def is_reduced_word(word, about="moves"):
    if type(word) is not str or not set(word) <= set("srR") or reduced_slowly(word) != word:
        return False
    return about == "moves" or begins_as_value_word(word)


def is_word_verdict(verdict, system, word, state):
    """Point 13."""
    if is_tuple(verdict, 2) and verdict[0] == "barred":
        return is_closed_table(verdict[1], system) and reading(verdict[1], system, word, state) is None
    if not is_tuple(verdict, 4) or verdict[0] != "reached" or not is_int(verdict[1]):
        return False
    _, cost, derivation, table = verdict
    return (
        cost_of_derivation(derivation, system, word, state) == cost
        and is_closed_table(table, system)
        and reading(table, system, word, state) == cost
    )


def ground(part):
    """What a set is about, its system, and the state of its place."""
    if part[0] == "moves":
        return "moves", part[1].system(part[2]), (-1, part[3])
    return "values", part[1].value_system(part[2], part[3]), (-1, part[4])


def letters_after(mark, about):
    if mark == "start":
        return "srR" if about == "moves" else "s"
    return {"first": "r", "s": "rR", "r": "s", "R": "s"}[mark]


def next_mark(mark, letter, about):
    return "first" if mark == "start" and about == "values" else letter


def is_mark(value, about):
    return type(value) is str and value in MARKS[about]


def is_list_verdict(part, verdict):
    """Point 15."""
    about, system, place = ground(part)
    if not is_tuple(verdict, 3):
        return False
    kind, words, evidence = verdict
    if kind == "endless":
        return shows_endless(about, system, place, words, evidence)
    return kind == "finite" and shows_finite(about, system, place, words, evidence)


def shows_endless(about, system, place, words, evidence):
    if not is_tuple(words, 3) or not is_tuple(evidence, 2) or not is_tuple(evidence[1], 3):
        return False
    u, v, w = words
    middle, (one, two, three) = evidence
    if not all(type(word) is str for word in words) or v == "" or not is_state(middle, system):
        return False
    if not is_reduced_word(u + v + v + w, about) or not is_reduced_word(u + w, about):
        return False
    return (
        cost_of_derivation(one, system, u, middle) is not None
        and cost_of_derivation(two, system, v, middle, start=middle) is not None
        and cost_of_derivation(three, system, w, place, start=middle) is not None
    )


def shows_finite(about, system, place, words, evidence):
    if type(words) is not tuple or not is_tuple(evidence, 3):
        return False
    derivations, table, dead = evidence
    if not all(is_reduced_word(word, about) for word in words) or not is_closed_table(table, system):
        return False
    if list(words) != sorted(set(words), key=lambda word: (len(word), ["srR".index(letter) for letter in word])):
        return False
    if not is_tuple(derivations, len(words)) or type(dead) is not tuple:
        return False
    for word, derivation in zip(words, derivations):
        if cost_of_derivation(derivation, system, word, place) is None:
            return False
    entries = base_entries(table, system)
    for pair in dead:
        if not is_tuple(pair, 2) or not is_mark(pair[0], about) or not is_state(pair[1], system):
            return False
        if pair[0] == "start" or pair[1] == place:
            return False
    for mark, state in dead:
        for letter, p, q in entries:
            if p == state and letter and letter in letters_after(mark, about):
                if (next_mark(mark, letter, about), q) not in dead:
                    return False
    return reads_only(about, system, place, words, entries, dead)


def reads_only(about, system, place, words, entries, dead):
    """Reading the beginnings of listed words leads to listed words and to dead pairs only."""
    beginnings = {word[:length] for word in words for length in range(len(word) + 1)} | {""}
    if ("", system.start, place) in entries and "" not in words:
        return False
    for beginning in beginnings:
        states, mark = {system.start}, "start"
        for letter in beginning:
            states = {q for x, p, q in entries if x == letter and p in states}
            mark = next_mark(mark, letter, about)
        if beginning and place in states and beginning not in words:
            return False
        for x, p, q in entries:
            if p in states and x and x in letters_after(mark, about) and beginning + x not in beginnings:
                if (next_mark(mark, x, about), q) not in dead:
                    return False
    return True


def is_contained_verdict(one, other, verdict):
    """Point 16, but for the question whether a word is a shortest one."""
    (about, first, place), (_, second, other_place) = ground(one), ground(other)
    if is_tuple(verdict, 4) and verdict[0] == "parted":
        _, word, derivation, table = verdict
        return (
            is_reduced_word(word, about)
            and cost_of_derivation(derivation, first, word, place) is not None
            and is_closed_table(table, second)
            and reading(table, second, word, other_place) is None
        )
    if not is_tuple(verdict, 2) or verdict[0] != "contained" or not is_tuple(verdict[1], 3):
        return False
    table, items, triples = verdict[1]
    if not is_closed_table(table, first) or item_costs(items, second) is None or type(triples) is not tuple:
        return False
    for triple in triples:
        if not is_tuple(triple, 3) or not is_mark(triple[0], about) or not is_state(triple[1], first):
            return False
        if type(triple[2]) is not tuple or not all(is_state(state, second) for state in triple[2]):
            return False
        if list(triple[2]) != sorted(set(triple[2])):
            return False
    return holds_all_readings(about, (first, place), (second, other_place), table, items, triples)


def holds_all_readings(about, one, other, table, items, triples):
    (first, place), (second, other_place) = one, other
    entries = base_entries(table, first)
    led = {item[:3] for item in items}
    if ("start", first.start, (second.start,)) not in triples:
        return False
    if ("", first.start, place) in entries and ("", second.start, other_place) not in led:
        return False
    held = set(triples)
    for mark, state, others in triples:
        for letter in letters_after(mark, about):
            reached = tuple(sorted({q for x, p, q in led if x == letter and p in others}))
            for x, p, q in entries:
                if (x, p) == (letter, state):
                    if (next_mark(mark, letter, about), q, reached) not in held:
                        return False
                    if q == place and other_place not in reached:
                        return False
    return True


def is_met_verdict(one, other, verdict):
    """Point 17, but for the question whether a word is a shortest one."""
    (about, first, place), (_, second, other_place) = ground(one), ground(other)
    if is_tuple(verdict, 4) and verdict[0] == "met":
        _, word, derivation, another = verdict
        return (
            is_reduced_word(word, about)
            and cost_of_derivation(derivation, first, word, place) is not None
            and cost_of_derivation(another, second, word, other_place) is not None
        )
    if not is_tuple(verdict, 2) or verdict[0] != "apart" or not is_tuple(verdict[1], 3):
        return False
    table, other_table, triples = verdict[1]
    if not is_closed_table(table, first) or not is_closed_table(other_table, second) or type(triples) is not tuple:
        return False
    for triple in triples:
        if not is_tuple(triple, 3) or not is_mark(triple[0], about) or not is_state(triple[1], first):
            return False
        if not is_state(triple[2], second) or (triple[0] != "start" and triple[1:] == (place, other_place)):
            return False
    entries, others = base_entries(table, first), base_entries(other_table, second)
    if ("start", first.start, second.start) not in triples:
        return False
    if ("", first.start, place) in entries and ("", second.start, other_place) in others:
        return False
    for mark, state, other_state in triples:
        for letter in letters_after(mark, about):
            for q in [key[2] for key in entries if key[:2] == (letter, state)]:
                for other_q in [key[2] for key in others if key[:2] == (letter, other_state)]:
                    if (next_mark(mark, letter, about), q, other_q) not in triples:
                        return False
    return True
