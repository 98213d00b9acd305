"""Point 10: closed tables, and what they tell of the cost of words."""

import copy
import itertools
import random
import unittest

from fracwalk.machines import Machine, System
from fracwalk.tables import is_closed, least_table, reading_cost
from tests.helpers import STRANGE_VALUES, reduced_words, within
from tests.machine_helpers import (
    KINDS,
    closed_plainly,
    fields,
    full_machine,
    least_entries,
    machine_with,
    readings,
    some_systems,
    two_places,
)

ONE = Machine(1).system(0)
P = (-1, 0)
Q = (-1, 1)

# Keys that are no triples of a kind and two states of the machines here.
OTHER_KEYS = [
    None,
    0,
    True,
    "",
    "s",
    (),
    ("",),
    ("", P),
    ("", P, P, P),
    ("", P, (-1, 12)),
    ("", (-1, 12), (-1, 12)),
    ("s", (0, 1), P),
    ("s", (0, 0), (0, 0)),
    ("", (-2, 0), (-2, 0)),
    ("x", P, P),
    ("S", P, P),
    ("sr", P, P),
    ("srs", P, P),
    (" ", P, P),
    (None, P, P),
    (0, P, P),
    (("",), P, P),
    ("", P, 0),
    ("", -1, 0),
    ("", P, (-1,)),
    ("", P, (-1, 0, 0)),
    ("", P, "-1"),
    ("", (P, P), P),
    ("s", ((-1, 0), (-1, 0))),
    ("s", P, (-1, False)),
    ("s", (-1, False), P),
    ("s", (True, 0), P),
    ("", (-1, False), (-1, False)),
    P,
    (P, P, ""),
    (((((((1,),),),),),),),
]

WORTHS = [None, 0, 5, -1, True, False, "0", "", (), [], {}, [0], {"a": [1]}, 10**59]


def table_of(system):
    return least_table(system)[0]


class Closed(unittest.TestCase):
    def assert_closed(self, expected, table, system):
        """The verdict is this one, and nothing is changed."""
        before = copy.deepcopy((table, fields(system)))
        self.assertIs(is_closed(table, system), expected)
        self.assertEqual((table, fields(system)), before)

    def assert_as_plainly(self, table, system):
        self.assert_closed(closed_plainly(table, system), table, system)

    def test_smallest_tables(self):
        self.assert_closed(True, {("", P, P): 0}, ONE)
        self.assert_closed(False, {}, ONE)
        self.assert_closed(False, {("", P, P): 1}, ONE)
        self.assert_closed(False, {("s", P, P): 0}, ONE)
        self.assert_closed(True, {("", P, P): 0, ("s", P, P): 4}, ONE)
        self.assert_closed(False, {("", P, P): 0, ("r", P, P): 4}, ONE)
        self.assert_closed(True, {("", P, P): 0, ("r", P, P): 4, ("R", P, P): 8}, ONE)
        self.assert_closed(True, {("", P, P): 0, ("r", P, P): 4, ("R", P, P): 2}, ONE)
        self.assert_closed(False, {("", P, P): 0, ("r", P, P): 4, ("R", P, P): 9}, ONE)
        self.assert_closed(False, {("", P, P): 0, ("r", P, P): 4, ("R", P, P): 1}, ONE)

    def test_start_is_in_the_base(self):
        machine = Machine(2)
        for place, other in [(0, 1), (1, 0)]:
            alone = {("", (-1, place), (-1, place)): 0}
            self.assert_closed(True, alone, machine.system(place))
            self.assert_closed(False, alone, machine.system(other))
        both = {("", P, P): 0, ("", Q, Q): 0}
        self.assert_closed(True, both, machine.system(0))
        self.assert_closed(True, both, machine.system(1))

    def test_steps_from_the_base(self):
        system = machine_with(3, (0, 1, "s", 3), (2, 1, "r", 0)).system(0)
        self.assert_closed(False, {("", P, P): 0}, system)
        base = {("", P, P): 0, ("", Q, Q): 0}
        self.assert_closed(False, base, system)
        for cost, expected in [(0, True), (2, True), (3, True), (4, False), (9, False)]:
            self.assert_closed(expected, {**base, ("s", P, Q): cost}, system)
        self.assert_closed(False, {**base, ("r", P, Q): 3, ("R", P, Q): 3, ("", P, Q): 3}, system)
        # The end of a step is in the base, too.
        self.assert_closed(False, {("", P, P): 0, ("s", P, Q): 3}, system)
        # A step from a state in the base to which no step leads.
        self.assert_closed(False, {**base, ("s", P, Q): 3, ("", (-1, 2), (-1, 2)): 0}, system)

    def test_inner_states_of_the_base(self):
        system = two_places().system(0)
        table = table_of(system)
        for state in system.states:
            self.assert_closed(False, {key: table[key] for key in table if state not in key}, system)
            self.assert_closed(False, {key: table[key] for key in table if key != ("", state, state)}, system)

    def test_least_tables(self):
        for system in some_systems(40):
            table = table_of(system)
            self.assert_closed(True, table, system)
            self.assertTrue(closed_plainly(table, system))

    def test_raised_entries(self):
        for system in some_systems(12, places=2, edges=3):
            table = table_of(system)
            for key in table:
                self.assert_closed(False, {**table, key: table[key] + 1}, system)
                self.assert_closed(False, {**table, key: 10**59}, system)

    def test_removed_entries(self):
        for system in some_systems(12, places=2, edges=3):
            table = table_of(system)
            for key in table:
                self.assert_closed(False, {other: table[other] for other in table if other != key}, system)

    def test_lowered_entries(self):
        verdicts = set()
        for system in some_systems(25, places=2, edges=4, seed=5):
            table = table_of(system)
            for key in table:
                for cost in {0, table[key] - 1} - {-1, table[key]}:
                    self.assert_as_plainly({**table, key: cost}, system)
                    verdicts.add(is_closed({**table, key: cost}, system))
        self.assertEqual(verdicts, {True, False})

    def test_added_entries(self):
        verdicts = set()
        for system in some_systems(8, places=2, edges=3, seed=6):
            table = table_of(system)
            for key in itertools.product(KINDS, system.states, system.states):
                if key not in table:
                    for cost in (0, 7, 1000):
                        self.assert_as_plainly({**table, key: cost}, system)
                        verdicts.add(is_closed({**table, key: cost}, system))
        self.assertEqual(verdicts, {True, False})

    def test_tables_of_another_system(self):
        systems = some_systems(12, seed=8)
        for system, other in itertools.product(systems, repeat=2):
            self.assert_as_plainly(table_of(other), system)

    def test_drawn_tables(self):
        draw = random.Random(9)
        systems = some_systems(8, places=2, edges=1, longest=2)
        verdicts = []
        for _ in range(500):
            system = draw.choice(systems)
            states = [state for state in system.states if draw.random() < 0.8]
            table = {("", p, p): 0 for p in states}
            for key in itertools.product(KINDS, system.states, system.states):
                if draw.random() < 0.15 and key not in table:
                    table[key] = draw.randint(0, 3)
            # Most of these are not closed: close some of them.
            if draw.random() < 0.6:
                steps = [(p, kind, q, cost, 0, 0) for (kind, p, q), cost in table.items()]
                table = least_entries(System(system.states, tuple(steps) + system.steps, system.start))
                if draw.random() < 0.5:
                    table[draw.choice(list(table))] += draw.choice([-1, 1])
            self.assert_as_plainly(table, system)
            verdicts.append(is_closed(table, system))
        self.assertGreater(verdicts.count(True), 100)
        self.assertGreater(verdicts.count(False), 100)

    def test_steps_in_any_order(self):
        for system in some_systems(10):
            table = table_of(system)
            for steps in (system.steps[::-1], tuple(sorted(system.steps))):
                self.assert_closed(True, table, System(system.states, steps, system.start))

    def test_other_keys_are_ignored(self):
        for machine in [Machine(1), machine_with(1, (0, 0, "s", 2)), machine_with(1, (0, 0, "rs", 2), (0, 0, "", 0))]:
            system = machine.system(0)
            table = table_of(system)
            keys = [key for key in OTHER_KEYS if key not in [("s", (0, 1), P)] or len(system.states) == 1]
            for key, worth in itertools.product(keys, WORTHS):
                if key not in table:
                    self.assert_closed(True, {**table, key: worth}, system)
                    self.assert_closed(False, {key: worth}, system)
            many = {key: worth for key, worth in zip(keys, itertools.cycle(WORTHS)) if key not in table}
            self.assert_closed(True, {**many, **table}, system)

    def test_entries_of_states_outside_of_the_base_are_ignored(self):
        system = machine_with(3, (0, 0, "s", 1), (2, 0, "rs", 5)).system(0)
        table = table_of(system)
        self.assertEqual(sorted(table), [("", P, P), ("s", P, P)])
        for kind, state, worth in itertools.product(KINDS, [Q, (-1, 2), (1, 1)], WORTHS):
            self.assert_closed(True, {**table, (kind, P, state): worth}, system)
            self.assert_closed(True, {**table, (kind, state, P): worth}, system)
        # What is in the base counts, also if no step leads to it.
        self.assert_closed(True, {**table, ("", Q, Q): 0}, system)
        self.assert_closed(False, {**table, ("", Q, Q): 0, ("", P, Q): 3}, system)
        self.assert_closed(False, {**table, ("", (-1, 2), (-1, 2)): 0}, system)
        for worth in WORTHS:
            expected = type(worth) is int and worth == 0
            self.assert_closed(expected, {**table, ("", Q, Q): worth}, system)

    def test_keys_with_booleans_are_no_entries(self):
        # Equal as keys, but True and False are no integers.
        self.assert_closed(False, {("", (-1, False), (-1, False)): 0}, ONE)
        self.assert_closed(False, {("", (-1, 0), (-1, False)): 0}, ONE)
        self.assert_closed(False, {("", (-1, False), (-1, 0)): 0}, ONE)
        system = Machine(2).system(0)
        for worth in WORTHS:
            self.assert_closed(True, {("", P, P): 0, ("", (-1, True), (-1, True)): worth}, system)

    def test_entries_that_are_no_integers_from_0_on(self):
        for system in [ONE, two_places().system(0), two_places().value_system(1, (0, 1))]:
            table = table_of(system)
            for key in table:
                for worth in [None, -1, -(10**59), True, False, "0", "", (), (0,), [], [0], {}, {0: 0}]:
                    self.assert_closed(False, {**table, key: worth}, system)
        table = {("", P, P): 0, ("s", P, P): 0}
        self.assert_closed(True, table, ONE)
        for worth in [False, None, -1]:
            self.assert_closed(False, {**table, ("s", P, P): worth}, ONE)
            self.assert_closed(False, {**table, ("", P, P): worth}, ONE)

    def test_tables_of_zeros(self):
        for system in some_systems(15):
            zeros = {key: 0 for key in itertools.product(KINDS, system.states, system.states)}
            self.assert_closed(True, zeros, system)
            wrong = ("R", system.start, system.start)
            self.assert_closed(False, {**zeros, wrong: 1}, system)
            self.assert_closed(False, {**zeros, wrong: False}, system)
            self.assert_closed(False, {key: 0 for key in zeros if key != wrong}, system)

    def test_large_entries(self):
        table = {("", P, P): 0, ("s", P, P): 10**59, ("r", P, P): 10**59, ("R", P, P): 2 * 10**59}
        self.assert_closed(True, table, ONE)
        self.assert_closed(False, {**table, ("R", P, P): 2 * 10**59 + 1}, ONE)

    def test_arbitrary_values(self):
        system = two_places().system(0)
        table = table_of(system)
        values = STRANGE_VALUES + WORTHS + OTHER_KEYS
        values += [list(table), tuple(table.items()), list(table.items()), [table], (table,), {"table": table}]
        for value in values:
            self.assert_closed(False, value, system)
            self.assert_closed(False, value, ONE)

    def test_large_and_deep_values(self):
        deep = []
        for _ in range(14):
            deep = [deep]
        key = 0
        for _ in range(13):
            key = (key,)
        for value in [deep, {"a": deep}, {key: deep}, {("", P, key): 0}, {number: 0 for number in range(10000)}]:
            self.assert_closed(False, value, ONE)
            if isinstance(value, dict):
                self.assert_closed(True, {**value, ("", P, P): 0}, ONE)

    def test_of_20_states_and_of_32(self):
        machine = full_machine()
        for system in [machine.system(0), machine.value_system(3, (-5, 1))]:
            table = table_of(system)
            zeros = {key: 0 for key in itertools.product(KINDS, system.states, system.states)}
            with within(5):
                self.assertIs(is_closed(table, system), True)
                self.assertIs(is_closed(zeros, system), True)


class Readings(unittest.TestCase):
    def assert_reading(self, table, system, word, state):
        sums = [total for total, _ in readings(table, system, word, state)]
        before = copy.deepcopy((table, fields(system)))
        self.assertEqual(reading_cost(table, system, word, state), min(sums) if sums else None)
        self.assertEqual((table, fields(system)), before)

    def test_example(self):
        system = two_places().system(0)
        table, _, _ = least_table(system)
        self.assertEqual(reading_cost(table, system, "rs", Q), 2)
        self.assertEqual(reading_cost(table, system, "", P), 0)
        self.assertIsNone(reading_cost(table, system, "", Q))
        self.assertIsNone(reading_cost(table, system, "rsrs", P))
        self.assertIsNone(reading_cost(table, system, "sR", Q))

    def test_empty_word_is_the_entry(self):
        system = Machine(2).system(0)
        table = {("", P, P): 0, ("", Q, Q): 0, ("", P, Q): 7, ("s", P, Q): 1}
        self.assertEqual(reading_cost(table, system, "", Q), 7)
        self.assertEqual(reading_cost(table, system, "", P), 0)
        self.assertIsNone(reading_cost({("", P, P): 0, ("", Q, Q): 0}, system, "", Q))
        self.assertIsNone(reading_cost({("", P, P): 0, ("", P, Q): 7}, system, "", Q))
        self.assertIsNone(reading_cost({("", Q, Q): 0, ("", P, Q): 7}, system, "", Q))
        self.assertIsNone(reading_cost({}, system, "", P))

    def test_least_of_several_sums(self):
        system = Machine(4).system(0)
        a, b, c, d = system.states
        table = {("", state, state): 0 for state in system.states}
        table.update({("s", a, b): 1, ("s", a, c): 2, ("r", b, d): 9, ("r", c, d): 3, ("s", d, a): 1, ("s", d, b): 0})
        self.assertEqual(reading_cost(table, system, "sr", d), 5)
        self.assertEqual(reading_cost(table, system, "srs", a), 6)
        self.assertEqual(reading_cost(table, system, "srs", b), 5)
        self.assertEqual(reading_cost(table, system, "srsr", d), 14)
        self.assertEqual(reading_cost(table, system, "s", b), 1)
        self.assertIsNone(reading_cost(table, system, "sR", d))
        self.assertIsNone(reading_cost(table, system, "r", d))
        self.assertIsNone(reading_cost(table, system, "", d))
        del table["", c, c]
        self.assertEqual(reading_cost(table, system, "sr", d), 10)
        self.assertIsNone(reading_cost(table, system, "s", c))
        del table["", b, b]
        self.assertIsNone(reading_cost(table, system, "sr", d))

    def test_states_outside_of_the_base(self):
        system = machine_with(2, (1, 0, "s", 1)).system(0)
        table = table_of(system)
        table[("s", P, Q)] = 3
        for word in ["", "s", "sr"]:
            for state in [Q, (-1, 2), (0, 1), (-2, 0), (10**59, 0)]:
                self.assertIsNone(reading_cost(table, system, word, state))
        foreign = {("", (5, 5), (5, 5)): 0, ("s", P, (5, 5)): 1, ("", P, (5, 5)): 1, ("r", (5, 5), P): 1}
        self.assertIsNone(reading_cost({**table, **foreign}, system, "s", (5, 5)))
        self.assertIsNone(reading_cost({**table, **foreign}, system, "", (5, 5)))
        self.assertIsNone(reading_cost({**table, **foreign}, system, "sr", P))

    def test_start_outside_of_the_base(self):
        system = Machine(2).system(0)
        table = {("", Q, Q): 0, ("s", P, Q): 1, ("s", Q, Q): 1, ("r", Q, Q): 1, ("R", Q, Q): 1}
        for word in ["", "s", "sr"]:
            self.assertIsNone(reading_cost(table, system, word, Q))
            self.assertIsNone(reading_cost(table, system, word, P))
            self.assertIsNone(reading_cost({}, system, word, P))

    def test_other_keys_are_ignored(self):
        system = machine_with(1, (0, 0, "s", 2)).system(0)
        others = {key: worth for key, worth in zip(OTHER_KEYS, itertools.cycle(WORTHS)) if key != ("s", P, P)}
        table = {**table_of(system), **{key: others[key] for key in others if key not in table_of(system)}}
        self.assertEqual(reading_cost(table, system, "s", P), 2)
        self.assertEqual(reading_cost(table, system, "", P), 0)
        self.assertIsNone(reading_cost(table, system, "sr", P))

    def test_least_tables(self):
        for system in some_systems(12, places=2, edges=3, values=((1, 0), (0, 1))):
            table = table_of(system)
            for word in reduced_words(3):
                for state in system.states:
                    self.assert_reading(table, system, word, state)

    def test_drawn_tables(self):
        draw = random.Random(12)
        found = []
        for system in some_systems(30, places=3, edges=2, longest=2):
            states = [state for state in system.states if draw.random() < 0.7] + [system.start]
            table = {("", p, p): 0 for p in states}
            for key in itertools.product(KINDS, system.states, system.states):
                if draw.random() < 0.3 and key not in table:
                    table[key] = draw.choice([0, 1, 5, 10**59])
            for word in reduced_words(3):
                for state in system.states:
                    self.assert_reading(table, system, word, state)
                    found.append(reading_cost(table, system, word, state))
        self.assertGreater(found.count(None), 300)
        self.assertGreater(len(found) - found.count(None), 300)

    def test_long_words(self):
        machine = full_machine()
        for system in [machine.system(0), machine.value_system(3, (-5, 1))]:
            table = table_of(system)
            with within(5):
                costs = [reading_cost(table, system, "rs" * length, P) for length in (1, 15, 30, 100)]
            self.assertNotIn(None, costs)
        loop = machine_with(1, (0, 0, "rs", 3)).system(0)
        self.assertEqual(reading_cost(table_of(loop), loop, "rs" * 30, P), 90)
        self.assertEqual(reading_cost(table_of(loop), loop, "rs" * 1000, P), 3000)
        self.assertIsNone(reading_cost(table_of(loop), loop, "rs" * 1000 + "R", P))


if __name__ == "__main__":
    unittest.main()
