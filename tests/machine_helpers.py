"""What the tests of machines, tables and derivations share: references that are slow but plain, and samples."""

import itertools
import random

from fracwalk.errors import LimitExceeded
from fracwalk.machines import Machine
from tests.helpers import Case, reduced_slowly, reduced_words

KINDS = ["", "s", "r", "R"]

# The kinds that multiply, by reducing them letter by letter.
PRODUCTS = {
    (one, other): reduced_slowly(one + other)
    for one, other in itertools.product(KINDS, repeat=2)
    if len(reduced_slowly(one + other)) < 2
}


def snapshot(machine):
    """All that can be seen of a machine's places and edges."""
    return (len(machine), list(machine.edges().items()), machine.next_number())


def fields(system):
    return (system.states, system.steps, system.start)


def machine_with(places, *edges):
    """A machine with these edges (start, end, word, cost), numbered from 0."""
    machine = Machine(places)
    for edge in edges:
        machine.add_edge(*edge)
    return machine


def two_places():
    """The machine of the interface's examples."""
    return machine_with(2, (0, 1, "rs", 2), (1, 0, "sR", 1))


def some_machines(count, places=3, edges=5, longest=3, seed=11):
    """Machines drawn with a fixed seed, some of them edited."""
    draw = random.Random(seed)
    words = reduced_words(longest)
    made = []
    while len(made) < count:
        machine = Machine(draw.randint(1, places))
        for _ in range(draw.randint(0, edges)):
            start, end, word = draw.randrange(len(machine)), draw.randrange(len(machine)), draw.choice(words)
            if len(machine.system(0).states) + len(word) <= 20:
                machine.add_edge(start, end, word, draw.choice([0, 0, 1, 2, 3, 9]))
        if draw.random() < 0.4:
            for number in list(machine.edges()):
                if draw.random() < 0.3:
                    machine.remove_edge(number)
                elif draw.random() < 0.3:
                    machine.reroute_edge(number, draw.randrange(len(machine)), draw.randrange(len(machine)))
        made.append(machine)
    return made


def full_machine(seed=1):
    """A machine with 12 places, 20 states and 26 edges, each state of which leads to each other one."""
    draw = random.Random(seed)
    machine = Machine(12)
    for place in range(12):
        machine.add_edge(place, (place + 1) % 12, draw.choice("srR"), draw.randint(0, 9))
    for _ in range(4):
        machine.add_edge(draw.randrange(12), draw.randrange(12), draw.choice(["srs", "rsr", "RsR"]), 1)
    for _ in range(10):
        machine.add_edge(draw.randrange(12), draw.randrange(12), draw.choice(["", "s", "r", "R"]), draw.randint(0, 9))
    assert len(machine.system(0).states) == 20 and len(machine.edges()) == 26
    return machine


def some_systems(count, values=((1, 0), (0, 1), (1, 1), (-2, 1)), **more):
    """Systems of such machines, with and without a prelude."""
    systems = []
    for at, machine in enumerate(some_machines(count, **more)):
        place = at % len(machine)
        systems.append(machine.system(place))
        systems.append(machine.value_system(place, values[at % len(values)]))
    return systems


def reached_states(system):
    """The states that steps lead to from the start."""
    reached = {system.start}
    while True:
        further = {step[2] for step in system.steps if step[0] in reached}
        if further <= reached:
            return reached
        reached |= further


def least_entries(system):
    """The entries of the least table, by joining any two of them until nothing changes."""
    reached = reached_states(system)
    entries = {("", p, p): 0 for p in reached}
    for p, kind, q, cost, _, _ in system.steps:
        if p in reached:
            entries[kind, p, q] = min(cost, entries.get((kind, p, q), cost))
    changed = True
    while changed:
        changed = False
        for ((x, p, m), one), ((y, n, q), other) in itertools.product(list(entries.items()), repeat=2):
            if m == n and (x, y) in PRODUCTS:
                key = (PRODUCTS[x, y], p, q)
                if entries.get(key, one + other + 1) > one + other:
                    entries[key] = one + other
                    changed = True
    return entries


def closed_plainly(table, system):
    """The conditions of point 10 one after another, for a dict whose keys are triples without booleans."""
    base = [p for p in system.states if ("", p, p) in table]
    if system.start not in base or any(table["", p, p] != 0 for p in base):
        return False
    triples = list(itertools.product(KINDS, base, base))
    if any(type(table[key]) is not int or table[key] < 0 for key in triples if key in table):
        return False
    for p, kind, q, cost, _, _ in system.steps:
        if p in base and (q not in base or table.get((kind, p, q), cost + 1) > cost):
            return False
    for (x, y), z in PRODUCTS.items():
        for p, m, q in itertools.product(base, repeat=3):
            if (x, p, m) in table and (y, m, q) in table:
                if (z, p, q) not in table or table[z, p, q] > table[x, p, m] + table[y, m, q]:
                    return False
    return True


def readings(table, system, word, state):
    """The sums of entries that read a word, with the states between, over all rows of states of the base."""
    base = [p for p in system.states if ("", p, p) in table]
    kinds = list(word) or [""]
    for between in itertools.product(base, repeat=len(kinds) - 1):
        along = [system.start, *between, state]
        keys = list(zip(kinds, along, along[1:]))
        if all(p in base for p in along) and all(key in table for key in keys):
            yield sum(table[key] for key in keys), keys


def derivation_of(system, table, items, found, word, state):
    """A derivation of the reading cost of a word, from a least table, or None."""
    choices = sorted(readings(table, system, word, state))
    if not choices:
        return None
    return items, tuple(found[key] for key in choices[0][1])


def growing_levels(levels, loop="r", cost=9):
    """Places in pairs: the way from place 2 k to 2 k + 1 with the empty word goes along the pair before again.

    With the loop r it goes twice along it, as "sr", r and "rs" are nothing; with the loop R three times.
    """
    machine = machine_with(2 * levels + 2, (0, 1, "", cost))
    for level in range(levels):
        machine.add_edge(2 * level + 2, 2 * level, "sr", 0)
        machine.add_edge(2 * level + 1, 2 * level, loop, 0)
        machine.add_edge(2 * level + 1, 2 * level + 3, "rs", 0)
    return machine


class MachineCase(Case):
    """A test case that looks at machines."""

    def assert_unchanged(self, machine, error, name, kept, call, *args, **more):
        """The call raises this error and leaves the machine as it is."""
        before = snapshot(machine)
        self.assert_refuses(error, name, kept, call, *args, **more)
        self.assertEqual(snapshot(machine), before)

    def assert_limit(self, machine, limit, call, *args, **more):
        self.assert_unchanged(machine, LimitExceeded, "limit", limit, call, *args, **more)
