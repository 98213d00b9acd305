"""Point 11: the least table, its items, and what it says of the routes of a machine."""

import heapq
import itertools
import unittest

from fracwalk.derivations import derivation_cost, write_route
from fracwalk.machines import Machine
from fracwalk.moves import act
from fracwalk.tables import is_closed, least_table, reading_cost
from fracwalk.words import join_words, move_of, value_of, value_word
from tests.helpers import begins_as_value_word, reduced_words, within
from tests.machine_helpers import (
    KINDS,
    closed_plainly,
    derivation_of,
    fields,
    full_machine,
    least_entries,
    machine_with,
    reached_states,
    snapshot,
    some_machines,
    some_systems,
    two_places,
)

P = (-1, 0)
Q = (-1, 1)


class LeastTables(unittest.TestCase):
    def assert_least(self, system):
        """The table is the least one, and all that is said of items and found holds."""
        before = fields(system)
        answer = least_table(system)
        self.assertEqual(fields(system), before)
        self.assertIs(type(answer), tuple)
        table, items, found = answer
        self.assertIs(type(table), dict)
        self.assertIs(type(items), tuple)
        self.assertIs(type(found), dict)
        self.assertEqual(table, least_entries(system))
        self.assert_closed_and_proved(system, table, items, found)
        return table

    def assert_closed_and_proved(self, system, table, items, found):
        reached = reached_states(system)
        for key, cost in table.items():
            kind, p, q = key
            self.assertIn(kind, KINDS)
            self.assertLessEqual({p, q}, reached)
            self.assertIs(type(cost), int)
        self.assertEqual({p for _, p, q in table if p == q}, reached)
        self.assertIs(is_closed(table, system), True)
        self.assertLessEqual(len(items), 4 * len(system.states) ** 2)
        self.assertEqual(set(found), set(table))
        costs = plain_costs(items, system)
        for key, index in found.items():
            self.assertIs(type(index), int)
            self.assertEqual(items[index][:3], key)
            self.assertEqual(costs[index], table[key])
        for kind, p, q in table:
            if p == system.start:
                derivation = (items, (found[kind, p, q],))
                self.assertEqual(derivation_cost(derivation, system, kind, q), table[kind, p, q])

    def test_no_edges(self):
        for places in (1, 5, 12):
            for place in range(places):
                state = (-1, place)
                table, items, found = least_table(Machine(places).system(place))
                self.assertEqual(table, {("", state, state): 0})
                self.assertEqual(items, (("", state, state, ("stay",)),))
                self.assertEqual(found, {("", state, state): 0})

    def test_example(self):
        table = self.assert_least(two_places().system(0))
        inner, back = (0, 1), (1, 1)
        stays = {("", state, state): 0 for state in (P, Q, inner, back)}
        self.assertEqual(
            table,
            {
                **stays,
                ("r", P, inner): 2,
                ("s", inner, Q): 0,
                ("s", Q, back): 1,
                ("R", back, P): 0,
                ("", inner, back): 1,
                ("R", inner, P): 1,
                ("r", P, back): 3,
                ("", P, P): 0,
                ("", back, inner): 2,
                ("s", back, Q): 2,
                ("s", Q, inner): 3,
            },
        )

    def test_edges_of_cost_0(self):
        self.assert_least(machine_with(2, (0, 1, "s", 0), (1, 0, "s", 0), (0, 1, "r", 0), (1, 1, "R", 0)).system(0))
        table = self.assert_least(machine_with(3, (0, 1, "", 0), (1, 2, "", 0), (2, 0, "", 0)).system(1))
        self.assertEqual(len(table), 9)
        self.assertEqual(set(table.values()), {0})

    def test_empty_word(self):
        table = self.assert_least(machine_with(3, (0, 1, "", 2), (1, 2, "", 3), (0, 2, "", 6), (0, 0, "", 9)).system(0))
        self.assertEqual(table["", P, (-1, 2)], 5)
        self.assertEqual(table["", P, Q], 2)
        self.assertEqual(table["", P, P], 0)
        self.assertNotIn(("", Q, P), table)

    def test_loops_whose_letters_cancel(self):
        table = self.assert_least(machine_with(1, (0, 0, "s", 1), (0, 0, "r", 1)).system(0))
        self.assertEqual(table, {("", P, P): 0, ("s", P, P): 1, ("r", P, P): 1, ("R", P, P): 2})
        table = self.assert_least(machine_with(2, (0, 1, "s", 1), (1, 1, "r", 2), (1, 0, "s", 4)).system(0))
        self.assertEqual(table["", P, P], 0)
        self.assertEqual(table["", Q, Q], 0)
        self.assertEqual(table["R", Q, Q], 4)
        # s r s is no kind, but s (r r r) s is one.
        self.assertNotIn(("r", P, P), table)
        self.assertEqual(table["s", P, Q], 1)
        table = self.assert_least(machine_with(3, (0, 1, "s", 1), (1, 1, "r", 2), (1, 2, "s", 4)).system(0))
        self.assertEqual(table["", P, (-1, 2)], 5)
        table = self.assert_least(machine_with(2, (0, 0, "srsrsrsr", 1), (0, 1, "RsRsRsRs", 1)).system(0))
        self.assertEqual(table["", P, Q], 2)

    def test_cheaper_ways_round(self):
        machine = machine_with(3, (0, 1, "s", 9), (0, 2, "rs", 1), (2, 2, "sR", 1), (2, 1, "sr", 1), (2, 2, "r", 1))
        table = self.assert_least(machine.system(0))
        self.assertEqual(table["R", P, Q], 2)

    def test_only_what_steps_lead_to(self):
        machine = machine_with(4, (0, 1, "rs", 1), (2, 0, "s", 1), (2, 3, "", 1), (3, 1, "", 1))
        for place, states in [
            (0, {P, Q, (0, 1)}),
            (1, {Q}),
            (2, {P, Q, (0, 1), (-1, 2), (-1, 3)}),
            (3, {Q, (-1, 3)}),
        ]:
            table = self.assert_least(machine.system(place))
            self.assertEqual({p for _, p, _ in table} | {q for _, _, q in table}, states)

    def test_some_systems(self):
        for system in some_systems(40):
            self.assert_least(system)
        for system in some_systems(10, places=4, edges=6, longest=2, seed=3):
            self.assert_least(system)

    def test_edited_machines(self):
        machine = machine_with(3, (0, 1, "rs", 2), (1, 0, "sR", 1), (1, 2, "s", 0))
        self.assert_least(machine.system(0))
        machine.remove_edge(1)
        self.assert_least(machine.system(0))
        machine.reroute_edge(2, 1, 1)
        self.assert_least(machine.system(0))
        machine.add_edge(1, 0, "", 3)
        self.assert_least(machine.system(0))
        self.assert_least(machine.value_system(0, (1, 2)))

    def test_preludes(self):
        for value in [(1, 0), (0, 1), (-1, 1), (1, 1), (-2, 1), (1, 2)]:
            table = self.assert_least(two_places().value_system(1, value))
            for kind, cost in [("", 0), ("s", None), ("r", None), ("R", None)]:
                self.assertEqual(table.get((kind, (-2, 0), (-2, 0))), cost)
        system = machine_with(1, (0, 0, "rs", 1)).value_system(0, (1, 0))
        self.assertEqual(self.assert_least(system)["", (-2, 0), P], 0)

    def test_answers_are_new(self):
        system = two_places().system(0)
        one, other = least_table(system), least_table(system)
        self.assertEqual(one[0], other[0])
        one[0].clear()
        one[2].clear()
        self.assertEqual(set(other[0]), set(other[2]))
        self.assertEqual(least_table(system)[0], other[0])

    def test_machine_is_unchanged(self):
        machine = two_places()
        before = snapshot(machine)
        least_table(machine.system(0))
        least_table(machine.value_system(0, (0, 1)))
        self.assertEqual(snapshot(machine), before)

    def test_20_states_without_delay(self):
        for seed in range(3):
            machine = full_machine(seed)
            for system in [machine.system(0), machine.value_system(5, value_of("srsrsrsrsr"))]:
                with within(5):
                    table, items, found = least_table(system)
                self.assert_closed_and_proved(system, table, items, found)
                self.assertGreater(len(table), 1500)
        self.assertTrue(closed_plainly(table, system))

    def test_one_machine_of_20_states_by_the_closing(self):
        system = machine_with(12, *[(k, (k + 1) % 12, "sr"[k % 2], k % 10) for k in range(12)]).system(0)
        self.assert_least(system)


class Routes(unittest.TestCase):
    """What the least table says, beside what routes do."""

    def test_no_route_costs_less(self):
        for machine in some_machines(25, places=3, edges=4):
            system = machine.system(0)
            table, _, _ = least_table(system)
            for (place, word), cost in cheapest_routes(machine, 0, 6).items():
                self.assertLessEqual(reading_cost(table, system, word, (-1, place)), cost)

    def test_some_route_costs_as_much(self):
        read = 0
        for machine in some_machines(60, places=2, edges=5, longest=2):
            system = machine.system(0)
            table, items, found = least_table(system)
            for word, place in itertools.product(reduced_words(3), range(len(machine))):
                cost = reading_cost(table, system, word, (-1, place))
                derivation = derivation_of(system, table, items, found, word, (-1, place))
                if cost is None:
                    self.assertIsNone(derivation)
                    continue
                self.assertEqual(derivation_cost(derivation, system, word, (-1, place)), cost)
                route = write_route(derivation, system, limit=10000)
                self.assertEqual(machine.run_route(0, route), (place, word, cost))
                read += 1
        self.assertGreater(read, 200)

    def test_same_costs_as_a_search(self):
        # Long enough for these words: all detours of these machines are short.
        for edges in [
            [(0, 1, "rs", 2), (1, 0, "sR", 1)],
            [(0, 0, "rs", 1), (0, 1, "s", 0), (1, 0, "r", 2)],
            [(0, 0, "sr", 3), (0, 1, "", 1), (1, 0, "s", 1)],
        ]:
            machine = machine_with(2, *edges)
            system = machine.system(0)
            table, _, _ = least_table(system)
            costs = cheapest_routes(machine, 0, 16)
            for word, place in itertools.product(reduced_words(6), range(2)):
                self.assertEqual(reading_cost(table, system, word, (-1, place)), costs.get((place, word)))

    def test_values_held(self):
        held = 0
        for at, machine in enumerate(some_machines(60, places=2, edges=5, longest=2, seed=2)):
            value = [(1, 0), (0, 1), (-1, 1), (1, 2)][at % 4]
            system = machine.value_system(0, value)
            table, items, found = least_table(system)
            for (place, word), cost in cheapest_routes(machine, 0, 4).items():
                target = value_word(act(move_of(word), value))
                self.assertLessEqual(reading_cost(table, system, target, (-1, place)), cost)
            for word, place in itertools.product(reduced_words(3), range(len(machine))):
                cost = reading_cost(table, system, word, (-1, place))
                if begins_as_value_word(word) and cost is not None:
                    derivation = derivation_of(system, table, items, found, word, (-1, place))
                    self.assertEqual(derivation_cost(derivation, system, word, (-1, place)), cost)
                    route = write_route(derivation, system, limit=10000)
                    end, moved, total = machine.run_route(0, route)
                    self.assertEqual((end, total), (place, cost))
                    self.assertEqual(act(move_of(moved), value), value_of(word))
                    held += 1
        self.assertGreater(held, 60)


def plain_costs(items, system):
    """The costs of right items, of which each joins earlier ones only."""
    steps = {(step[4], step[5]): step for step in system.steps}
    costs = []
    for index, (kind, p, q, how) in enumerate(items):
        if how[0] == "stay":
            assert (kind, p) == ("", q) and how == ("stay",)
            costs.append(0)
        elif how[0] == "step":
            step = steps[how[1:]]
            assert step[:3] == (p, kind, q)
            costs.append(step[3])
        else:
            _, one, other = how
            assert how[0] == "join" and 0 <= one < index and 0 <= other < index
            (x, begin, middle), (y, between, end) = items[one][:3], items[other][:3]
            assert (begin, middle, end) == (p, between, q) and join_words(x, y) == kind
            costs.append(costs[one] + costs[other])
    return costs


def cheapest_routes(machine, place, longest):
    """The least costs of routes whose beginnings have reduced words of at most so many letters, by their ends."""
    settled = {}
    waiting = [(0, place, "")]
    while waiting:
        cost, at, word = heapq.heappop(waiting)
        if (at, word) not in settled:
            settled[at, word] = cost
            for start, end, letters, further in machine.edges().values():
                if start == at and len(join_words(word, letters)) <= longest:
                    heapq.heappush(waiting, (cost + further, end, join_words(word, letters)))
    return settled


if __name__ == "__main__":
    unittest.main()
