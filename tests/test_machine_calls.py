"""Point 2 for machines, tables and derivations: how they are called, and that they change nothing else."""

import copy
import itertools
import unittest

from fracwalk.derivations import derivation_cost, write_route
from fracwalk.errors import (
    LimitExceeded,
    NotAValue,
    NotAWord,
    NotReduced,
    UnknownEdge,
    UnknownPlace,
    WrongPlace,
)
from fracwalk.machines import Machine, System, machine_of
from fracwalk.tables import is_closed, least_table, reading_cost
from tests.machine_helpers import fields, snapshot, two_places

P = (-1, 0)
Q = (-1, 1)
EDGES = {0: (0, 1, "rs", 2), 1: (1, 0, "sR", 1)}
SYSTEM = two_places().system(0)
TABLE, ITEMS, FOUND = least_table(SYSTEM)
DERIVATION = (ITEMS, (FOUND["r", P, (0, 1)], FOUND["s", (0, 1), Q]))

# What is called on a fresh machine, the names and arguments in the order of the interface, and the result,
# a machine or a system as its fields.
CALLS = [
    (lambda machine: Machine, [("places", 2)], (2, [], 0)),
    (lambda machine: machine.add_edge, [("start", 0), ("end", 1), ("word", "s"), ("cost", 9)], 2),
    (lambda machine: machine.remove_edge, [("number", 1)], None),
    (lambda machine: machine.reroute_edge, [("number", 1), ("start", 0), ("end", 1)], None),
    (lambda machine: machine.edges, [], EDGES),
    (lambda machine: machine.next_number, [], 2),
    (lambda machine: machine.twin, [], (2, list(EDGES.items()), 2)),
    (lambda machine: machine.run_route, [("place", 1), ("route", (1, 0, 1))], (0, "sR", 4)),
    (lambda machine: machine.system, [("place", 0)], fields(SYSTEM)),
    (
        lambda machine: machine.value_system,
        [("place", 1), ("value", (0, 1))],
        fields(machine_of(2, EDGES, 2).value_system(1, (0, 1))),
    ),
    (
        lambda machine: machine_of,
        [("places", 2), ("edges", EDGES), ("following", 7)],
        (2, list(EDGES.items()), 7),
    ),
    (
        lambda machine: System,
        [("states", (P,)), ("steps", ()), ("start", P)],
        ((P,), (), P),
    ),
    (lambda machine: least_table, [("system", SYSTEM)], (TABLE, ITEMS, FOUND)),
    (lambda machine: is_closed, [("table", TABLE), ("system", SYSTEM)], True),
    (
        lambda machine: reading_cost,
        [("table", TABLE), ("system", SYSTEM), ("word", "rs"), ("state", Q)],
        2,
    ),
    (
        lambda machine: derivation_cost,
        [("derivation", DERIVATION), ("system", SYSTEM), ("word", "rs"), ("state", Q)],
        2,
    ),
]

# The machine after a call that changes it.
CHANGED = {
    "add_edge": (2, [(0, EDGES[0]), (1, EDGES[1]), (2, (0, 1, "s", 9))], 3),
    "remove_edge": (2, [(0, EDGES[0])], 2),
    "reroute_edge": (2, [(0, EDGES[0]), (1, (0, 1, "sR", 1))], 2),
}


def shown(result):
    if isinstance(result, Machine):
        return snapshot(result)
    return fields(result) if isinstance(result, System) else result


class Calls(unittest.TestCase):
    def assert_call(self, choose, result, arguments, more):
        machine = two_places()
        function = choose(machine)
        before = copy.deepcopy([shown(worth) for worth in [*arguments, *more.values()]])
        found = shown(function(*arguments, **more))
        self.assertEqual(found, result)
        self.assertIs(type(found), type(result))
        self.assertEqual([shown(worth) for worth in [*arguments, *more.values()]], before)
        unchanged = snapshot(two_places())
        self.assertEqual(snapshot(machine), CHANGED.get(function.__name__, unchanged))

    def test_by_position(self):
        for choose, arguments, result in CALLS:
            self.assert_call(choose, result, [worth for _, worth in arguments], {})

    def test_by_name_in_another_order(self):
        for choose, arguments, result in CALLS:
            for order in itertools.permutations(arguments):
                self.assert_call(choose, result, [], dict(order))

    def test_first_by_position_and_the_rest_by_name(self):
        for choose, arguments, result in CALLS:
            if arguments:
                self.assert_call(choose, result, [arguments[0][1]], dict(arguments[:0:-1]))

    def test_arguments_have_no_default(self):
        for choose, arguments, _ in CALLS:
            for name, _ in arguments:
                machine = two_places()
                with self.assertRaises(TypeError):
                    choose(machine)(**{other: worth for other, worth in arguments if other != name})
                self.assertEqual(snapshot(machine), snapshot(two_places()))

    def test_no_further_argument(self):
        for choose, arguments, _ in CALLS:
            with self.assertRaises(TypeError):
                choose(two_places())(*[worth for _, worth in arguments], 0)

    def test_write_route(self):
        self.assertEqual(write_route(DERIVATION, SYSTEM, limit=1), (0,))
        self.assertEqual(write_route(limit=1, system=SYSTEM, derivation=DERIVATION), (0,))
        self.assertEqual(write_route(DERIVATION, limit=5, system=SYSTEM), (0,))

    def test_twice_the_same(self):
        for choose, arguments, result in CALLS:
            machine = two_places()
            function = choose(machine)
            if function.__name__ not in CHANGED:
                for _ in range(2):
                    self.assertEqual(shown(function(*[worth for _, worth in arguments])), result)


class Unchanged(unittest.TestCase):
    def test_calls_that_raise(self):
        machine = two_places()
        machine.remove_edge(machine.add_edge(0, 0, "", 0))
        before = snapshot(machine)
        for call, error in [
            (lambda: machine.add_edge(2, 0, "s", 1), UnknownPlace),
            (lambda: machine.add_edge(0, 2, "s", 1), UnknownPlace),
            (lambda: machine.add_edge(0, 1, ["s"], 1), NotAWord),
            (lambda: machine.add_edge(0, 1, "ss", 1), NotReduced),
            (lambda: machine.add_edge(0, 1, "srsrsrsrs", 1), LimitExceeded),
            (lambda: machine.add_edge(0, 1, "s", 10), LimitExceeded),
            (lambda: machine.remove_edge(2), UnknownEdge),
            (lambda: machine.reroute_edge(2, 0, 0), UnknownEdge),
            (lambda: machine.reroute_edge(0, 0, 2), UnknownPlace),
            (lambda: machine.run_route(2, ()), UnknownPlace),
            (lambda: machine.run_route(0, (0, 2)), UnknownEdge),
            (lambda: machine.run_route(0, (0, 0)), WrongPlace),
            (lambda: machine.system(2), UnknownPlace),
            (lambda: machine.value_system(2, (0, 1)), UnknownPlace),
            (lambda: machine.value_system(0, (0, 2)), NotAValue),
            (lambda: machine.value_system(0, (9, 1)), LimitExceeded),
        ]:
            for _ in range(2):
                with self.assertRaises(error):
                    call()
                self.assertEqual(snapshot(machine), before)

    def test_lists_and_dicts_within_any_value(self):
        machine = two_places()
        for value in [[1, [2]], {"a": [1]}, ([0], 1), (0, {"a": []}), {(1, 2): [3]}]:
            kept = copy.deepcopy(value)
            for call, error in [
                (lambda: machine.add_edge(0, 1, value, 1), NotAWord),
                (lambda: machine.add_edge(0, 1, "s", value), LimitExceeded),
                (lambda: machine.value_system(0, value), NotAValue),
                (lambda: Machine(value), LimitExceeded),
            ]:
                with self.assertRaises(error) as caught:
                    call()
                self.assertEqual(value, kept)
                if error is not LimitExceeded:
                    self.assertIs(caught.exception.value, value)
            self.assertIs(is_closed(value, SYSTEM), False)
            self.assertIsNone(derivation_cost(value, SYSTEM, "rs", Q))
            self.assertIsNone(derivation_cost((value, value), SYSTEM, "rs", Q))
            table = {**TABLE, "more": value}
            self.assertIs(is_closed(table, SYSTEM), True)
            self.assertEqual(reading_cost(table, SYSTEM, "rs", Q), 2)
            self.assertEqual(table, {**TABLE, "more": kept})
            self.assertEqual(value, kept)

    def test_systems_stay_as_they_are(self):
        machine = two_places()
        systems = [machine.system(0), machine.value_system(1, (1, 2))]
        before = [fields(system) for system in systems]
        machine.add_edge(0, 0, "srs", 1)
        machine.remove_edge(0)
        machine.reroute_edge(1, 1, 1)
        self.assertEqual([fields(system) for system in systems], before)

    def test_systems_are_of_their_own(self):
        machine = two_places()
        system = machine.system(0)
        system.states, system.steps, system.start = (), (), None
        self.assertEqual(fields(machine.system(0)), fields(SYSTEM))

    def test_answers_follow_the_objects_as_they_are_now(self):
        machine = two_places()
        self.assertEqual(reading_cost(least_table(machine.system(0))[0], machine.system(0), "rs", Q), 2)
        machine.add_edge(0, 1, "rs", 1)
        self.assertEqual(reading_cost(least_table(machine.system(0))[0], machine.system(0), "rs", Q), 1)
        machine.remove_edge(0)
        machine.remove_edge(2)
        self.assertIsNone(reading_cost(least_table(machine.system(0))[0], machine.system(0), "rs", Q))
        table = dict(TABLE)
        self.assertIs(is_closed(table, SYSTEM), True)
        table["r", P, (0, 1)] += 1
        self.assertIs(is_closed(table, SYSTEM), False)
        system = machine_of(2, EDGES, 2).system(0)
        self.assertEqual(derivation_cost(DERIVATION, system, "rs", Q), 2)
        system.start = Q
        self.assertIsNone(derivation_cost(DERIVATION, system, "rs", Q))
        self.assertIs(is_closed({("", P, P): 0}, System((P, Q), (), P)), True)


if __name__ == "__main__":
    unittest.main()
