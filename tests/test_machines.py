"""Point 7: machines, edges with their numbers and limits, and routes."""

import random
import unittest

from fracwalk.errors import (
    LimitExceeded,
    NotAWord,
    NotReduced,
    UnknownEdge,
    UnknownPlace,
    WrongPlace,
)
from fracwalk.machines import Machine, machine_of
from tests.helpers import STRANGE_VALUES, reduced_slowly, reduced_words, within
from tests.machine_helpers import MachineCase, machine_with, snapshot, some_machines, two_places

WORDS = reduced_words(2)


class Places(MachineCase):
    def test_number_of_places(self):
        for places in range(1, 13):
            machine = Machine(places)
            self.assertEqual(len(machine), places)
            self.assertEqual(snapshot(machine), (places, [], 0))
            for place in range(places):
                self.assertEqual(machine.run_route(place, ()), (place, "", 0))

    def test_other_numbers(self):
        for places in [0, 13, -1, -12, 14, 10**59, -(10**59)]:
            self.assert_refuses(LimitExceeded, "limit", 12, Machine, places)

    def test_other_values(self):
        kinds = [True, False, None, "1", "", (1,), [1], {}, {1: 1}, (), "12"]
        for places in kinds:
            self.assert_refuses(LimitExceeded, "limit", 12, Machine, places)


class AddEdge(MachineCase):
    def test_numbers_and_edges(self):
        machine = Machine(3)
        edges = [(0, 1, "rs", 2), (1, 1, "", 0), (2, 0, "srsRsrsr", 9), (0, 1, "rs", 2), (2, 2, "s", 1)]
        for number, edge in enumerate(edges):
            self.assertEqual(machine.next_number(), number)
            self.assertEqual(machine.add_edge(*edge), number)
        self.assertEqual(list(machine.edges().items()), list(enumerate(edges)))
        self.assertEqual(machine.next_number(), 5)

    def test_unknown_places(self):
        machine = machine_with(2, (0, 1, "s", 1))
        for place in [2, -1, 12, 10**59, True, False, None, "0", (0,), [0], {}, (-1, 0)]:
            for word, cost in [("s", 1), ("ss", 1), (None, 1), ("s", 10), ([], [])]:
                self.assert_unchanged(machine, UnknownPlace, "place", place, machine.add_edge, place, 0, word, cost)
                self.assert_unchanged(machine, UnknownPlace, "place", place, machine.add_edge, 1, place, word, cost)

    def test_start_comes_first(self):
        machine = Machine(2)
        self.assert_unchanged(machine, UnknownPlace, "place", 2, machine.add_edge, 2, 3, "s", 1)
        self.assert_unchanged(machine, UnknownPlace, "place", True, machine.add_edge, True, False, "s", 1)
        self.assert_unchanged(machine, UnknownPlace, "place", False, machine.add_edge, 1, False, "s", 1)
        self.assert_unchanged(machine, UnknownPlace, "place", -1, machine.add_edge, -1, 5, "x", 10)

    def test_words_of_other_letters(self):
        machine = two_places()
        for word in ["S", "x", "sr ", " ", "-", "s\n", "ssx", "srsrsrsrsrx", "\u0455"]:
            self.assert_unchanged(machine, NotAWord, "value", word, machine.add_edge, 0, 1, word, 1)

    def test_words_of_other_kinds(self):
        machine = two_places()
        for word in STRANGE_VALUES + [("s",), {"s": "r"}]:
            self.assert_unchanged(machine, NotAWord, "value", word, machine.add_edge, 0, 1, word, 1)
            self.assert_unchanged(machine, NotAWord, "value", word, machine.add_edge, 0, 1, word, 10)

    def test_words_that_are_not_reduced(self):
        machine = two_places()
        for word in ["ss", "rr", "rR", "Rr", "srrs", "srsrsrss", "sr" * 8 + "r"]:
            self.assert_unchanged(machine, NotReduced, "word", word, machine.add_edge, 0, 1, word, 1)
            self.assert_unchanged(machine, NotReduced, "word", word, machine.add_edge, 0, 1, word, 10)

    def test_all_reduced_words_to_8_letters(self):
        for word in reduced_words(8):
            machine = Machine(1)
            machine.add_edge(0, 0, word, 1)
            self.assertEqual(machine.edges(), {0: (0, 0, word, 1)})

    def test_words_of_9_letters(self):
        machine = two_places()
        self.assertEqual(machine.add_edge(0, 1, "srsrsrsr", 1), 2)
        for word in ["srsrsrsrs", "rsRsrsRsr", "sr" * 30]:
            for cost in [1, 10, None]:
                self.assert_limit(machine, 8, machine.add_edge, 0, 1, word, cost)

    def test_costs(self):
        machine = Machine(1)
        for cost in range(10):
            self.assertEqual(machine.add_edge(0, 0, "s", cost), cost)
            self.assertEqual(machine.edges()[cost], (0, 0, "s", cost))
        for cost in [-1, 10, 11, 10**59, True, False, None, "1", "", (1,), [1], {}, {1: 1}]:
            self.assert_limit(machine, 9, machine.add_edge, 0, 0, "s", cost)

    def test_edges_at_a_time(self):
        machine = Machine(2)
        for number in range(26):
            self.assertEqual(machine.add_edge(number % 2, 0, WORDS[number % 4], 1), number)
        self.assert_limit(machine, 26, machine.add_edge, 0, 1, "s", 1)
        self.assert_limit(machine, 26, machine.add_edge, 0, 1, "", 0)
        machine.reroute_edge(25, 1, 1)
        self.assert_limit(machine, 26, machine.add_edge, 0, 1, "s", 1)
        machine.remove_edge(3)
        self.assertEqual(machine.add_edge(0, 1, "s", 1), 26)
        self.assert_limit(machine, 26, machine.add_edge, 0, 1, "s", 1)
        self.assertEqual(sorted(set(range(27)) - set(machine.edges())), [3])

    def test_states_of_places(self):
        machine = Machine(12)
        machine.add_edge(0, 1, "srsrsrsr", 1)
        machine.add_edge(1, 2, "sr", 1)
        self.assertEqual(len(machine.system(0).states), 20)
        self.assert_limit(machine, 20, machine.add_edge, 0, 1, "rs", 1)
        for word in ["", "s", "r", "R"]:
            machine.add_edge(3, 4, word, 0)

    def test_twentieth_and_twenty_first_state(self):
        for places in range(1, 13):
            machine = Machine(places)
            states = places
            while states + 7 <= 20:
                machine.add_edge(0, 0, "rsrsrsrs", 1)
                states += 7
            longest = 20 - states + 1
            self.assert_limit(machine, 20, machine.add_edge, 0, 0, "srsrsrsr"[: longest + 1], 1)
            machine.add_edge(0, 0, "srsrsrsr"[:longest], 1)
            self.assertEqual(len(machine.system(0).states), 20)
            self.assert_limit(machine, 20, machine.add_edge, 0, 0, "rs", 1)

    def test_removing_makes_room_for_states(self):
        machine = machine_with(12, (0, 0, "srsrsrsr", 1), (0, 0, "sr", 1))
        machine.reroute_edge(1, 5, 6)
        self.assert_limit(machine, 20, machine.add_edge, 0, 0, "sr", 1)
        machine.remove_edge(1)
        self.assert_limit(machine, 20, machine.add_edge, 0, 0, "srs", 1)
        self.assertEqual(machine.add_edge(0, 0, "sR", 1), 2)

    def test_the_first_error_of_several(self):
        full = machine_with(12, (0, 0, "srsrsrsr", 1), (0, 0, "sr", 1), *[(0, 0, "", 0)] * 24)
        self.assertEqual((len(full.edges()), len(full.system(0).states)), (26, 20))
        long = "srsrsrsrs"
        for error, name, kept, arguments in [
            (UnknownPlace, "place", 12, (12, 13, None, None)),
            (UnknownPlace, "place", 13, (0, 13, "sx", None)),
            (NotAWord, "value", "sx" + long, (0, 1, "sx" + long, 10)),
            (NotReduced, "word", "s" + long, (0, 1, "s" + long, 10)),
            (LimitExceeded, "limit", 8, (0, 1, long, 10)),
            (LimitExceeded, "limit", 9, (0, 1, "sr", 10)),
            (LimitExceeded, "limit", 26, (0, 1, "sr", 9)),
        ]:
            self.assert_unchanged(full, error, name, kept, full.add_edge, *arguments)
        full.remove_edge(7)
        self.assert_limit(full, 20, full.add_edge, 0, 1, "sr", 9)
        self.assertEqual(full.add_edge(0, 1, "s", 9), 26)


class EditEdges(MachineCase):
    def test_remove(self):
        machine = two_places()
        self.assertIsNone(machine.remove_edge(0))
        self.assertEqual(machine.edges(), {1: (1, 0, "sR", 1)})
        self.assert_unchanged(machine, UnknownEdge, "number", 0, machine.remove_edge, 0)

    def test_numbers_are_never_used_again(self):
        machine = two_places()
        machine.remove_edge(1)
        self.assertEqual(machine.next_number(), 2)
        self.assertEqual(machine.add_edge(0, 0, "s", 0), 2)
        machine.remove_edge(2)
        machine.remove_edge(0)
        self.assertEqual(snapshot(machine), (2, [], 3))
        self.assertEqual(machine.add_edge(0, 0, "s", 0), 3)
        for number in range(4, 100):
            machine.remove_edge(number - 1)
            self.assertEqual(machine.add_edge(0, 1, "r", 0), number)

    def test_refused_edges_take_no_number(self):
        machine = two_places()
        self.assert_limit(machine, 9, machine.add_edge, 0, 1, "s", 10)
        self.assertEqual(machine.add_edge(0, 1, "s", 9), 2)

    def test_unknown_edges(self):
        machine = two_places()
        machine.add_edge(0, 0, "", 0)
        machine.remove_edge(2)
        for number in [2, 3, -1, -2, 10**59, True, False, None, "0", (0,), [0], {}]:
            self.assert_unchanged(machine, UnknownEdge, "number", number, machine.remove_edge, number)
            for start, end in [(0, 1), (2, 0), (0, 2), (True, None)]:
                self.assert_unchanged(
                    machine, UnknownEdge, "number", number, machine.reroute_edge, number, start, end
                )

    def test_reroute(self):
        machine = machine_with(3, (0, 1, "rs", 2), (1, 0, "sR", 1), (2, 2, "", 9))
        self.assertIsNone(machine.reroute_edge(0, 2, 0))
        self.assertIsNone(machine.reroute_edge(2, 0, 1))
        edges = [(0, (2, 0, "rs", 2)), (1, (1, 0, "sR", 1)), (2, (0, 1, "", 9))]
        self.assertEqual(snapshot(machine), (3, edges, 3))
        machine.reroute_edge(0, 2, 0)
        self.assertEqual(snapshot(machine), (3, edges, 3))

    def test_reroute_to_unknown_places(self):
        machine = two_places()
        for place in [2, -1, True, False, None, "1", [], (0,)]:
            self.assert_unchanged(machine, UnknownPlace, "place", place, machine.reroute_edge, 0, place, 0)
            self.assert_unchanged(machine, UnknownPlace, "place", place, machine.reroute_edge, 0, 0, place)
            self.assert_unchanged(machine, UnknownPlace, "place", place, machine.reroute_edge, 0, place, 7)

    def test_rerouted_full_machine(self):
        machine = machine_with(12, (0, 0, "srsrsrsr", 1), (0, 0, "sr", 1), *[(0, 0, "", 0)] * 24)
        for number in range(26):
            machine.reroute_edge(number, number % 12, 11 - number % 12)
        self.assertEqual(machine.edges()[0], (0, 11, "srsrsrsr", 1))
        self.assertEqual(machine.edges()[25], (1, 10, "", 0))

    def test_edges_is_a_new_dict_in_ascending_order(self):
        machine = two_places()
        before = snapshot(machine)
        edges = machine.edges()
        edges[0] = (1, 1, "s", 9)
        edges[5] = (0, 0, "", 0)
        del edges[1]
        self.assertEqual(snapshot(machine), before)
        self.assertIsNot(machine.edges(), machine.edges())
        for machine in some_machines(20, edges=8):
            self.assertIs(type(machine.edges()), dict)
            self.assertEqual(list(machine.edges()), sorted(machine.edges()))
            for edge in machine.edges().values():
                self.assertEqual([type(part) for part in edge], [int, int, str, int])
                self.assertIs(type(edge), tuple)


class Twins(MachineCase):
    def test_equal_when_made(self):
        for machine in [Machine(1), Machine(12), two_places()] + some_machines(30):
            before = snapshot(machine)
            twin = machine.twin()
            self.assertIsNot(twin, machine)
            self.assertIs(type(twin), Machine)
            self.assertEqual(snapshot(twin), before)
            self.assertEqual(twin, machine)
            self.assertEqual(snapshot(machine), before)

    def test_of_its_own_afterwards(self):
        machine = two_places()
        before = snapshot(machine)
        for change in [
            lambda one: one.add_edge(0, 0, "s", 1),
            lambda one: one.remove_edge(1),
            lambda one: one.reroute_edge(0, 1, 1),
        ]:
            twin = machine.twin()
            change(twin)
            self.assertEqual(snapshot(machine), before)
            self.assertNotEqual(twin, machine)
            machine = two_places()
            twin = machine.twin()
            change(machine)
            self.assertEqual(snapshot(twin), before)
            self.assertNotEqual(twin, machine)
            machine = two_places()

    def test_next_number_is_kept(self):
        machine = two_places()
        machine.add_edge(0, 0, "", 0)
        machine.remove_edge(2)
        twin = machine.twin()
        self.assertEqual(twin.add_edge(0, 0, "", 0), 3)
        self.assertEqual(machine.next_number(), 3)

    def test_twin_of_a_twin(self):
        machine = two_places()
        twin = machine.twin().twin()
        machine.remove_edge(0)
        self.assertEqual(snapshot(twin), snapshot(two_places()))

    def test_equal_machines(self):
        self.assertEqual(two_places(), two_places())
        self.assertNotEqual(Machine(1), Machine(2))
        self.assertNotEqual(Machine(1), machine_of(1, {}, 1))
        self.assertNotEqual(Machine(2), two_places())
        self.assertNotEqual(Machine(1), 1)
        self.assertNotEqual(Machine(1), ())


class MachineOf(MachineCase):
    def test_gaps_and_a_following_number(self):
        edges = {2: (0, 1, "rs", 2), 5: (1, 0, "", 0), 9: (1, 1, "srsrsrsr", 9)}
        machine = machine_of(2, edges, 14)
        self.assertIs(type(machine), Machine)
        self.assertEqual(snapshot(machine), (2, list(edges.items()), 14))
        self.assertEqual(machine.add_edge(0, 0, "s", 1), 14)
        self.assertEqual(machine.run_route(0, (2, 9, 5)), (0, "Rsrsrsr", 11))
        self.assertEqual(edges, {2: (0, 1, "rs", 2), 5: (1, 0, "", 0), 9: (1, 1, "srsrsrsr", 9)})

    def test_no_edges(self):
        self.assertEqual(snapshot(machine_of(12, {}, 0)), (12, [], 0))
        self.assertEqual(snapshot(machine_of(1, {}, 10**59)), (1, [], 10**59))

    def test_numbers_of_many_digits(self):
        machine = machine_of(1, {10**58: (0, 0, "s", 1)}, 10**59)
        self.assertEqual(machine.run_route(0, (10**58,) * 3), (0, "s", 3))
        self.assertEqual(machine.add_edge(0, 0, "", 0), 10**59)

    def test_keeps_a_copy(self):
        edges = {0: (0, 0, "s", 1)}
        machine = machine_of(1, edges, 3)
        edges[1] = (0, 0, "r", 1)
        del edges[0]
        self.assertEqual(snapshot(machine), (1, [(0, (0, 0, "s", 1))], 3))
        machine.add_edge(0, 0, "r", 2)
        machine.remove_edge(0)
        self.assertEqual(edges, {1: (0, 0, "r", 1)})

    def test_same_as_the_machine(self):
        for machine in some_machines(30, edges=9):
            again = machine_of(len(machine), machine.edges(), machine.next_number())
            self.assertEqual(snapshot(again), snapshot(machine))
            self.assertEqual(again, machine)

    def test_limits_of_a_full_machine(self):
        edges = {3 * number: (0, 1, "s", number % 10) for number in range(26)}
        machine = machine_of(2, edges, 76)
        self.assert_limit(machine, 26, machine.add_edge, 0, 1, "s", 1)
        machine = machine_of(12, {4: (0, 1, "srsrsrsr", 1), 7: (1, 0, "sr", 1)}, 8)
        self.assert_limit(machine, 20, machine.add_edge, 0, 1, "sr", 1)
        self.assertEqual(machine.add_edge(0, 1, "s", 1), 8)

    def test_somewhat_beyond_the_limits(self):
        edges = {number: (number % 13, 12, "srsrsrsrs", 10) for number in range(27)}
        self.assertEqual(snapshot(machine_of(13, edges, 27)), (13, list(edges.items()), 27))
        self.assertEqual(snapshot(machine_of(13, edges, 27).twin()), (13, list(edges.items()), 27))


class RunRoute(MachineCase):
    def test_empty_route(self):
        machine = two_places()
        self.assertEqual(machine.run_route(0, ()), (0, "", 0))
        self.assertEqual(machine.run_route(1, ()), (1, "", 0))

    def test_routes(self):
        machine = machine_with(2, (0, 1, "rs", 2), (1, 0, "sR", 1), (1, 1, "", 5), (0, 0, "r", 0))
        self.assertEqual(machine.run_route(0, (0,)), (1, "rs", 2))
        self.assertEqual(machine.run_route(0, (0, 1)), (0, "", 3))
        self.assertEqual(machine.run_route(1, (1, 0)), (1, "", 3))
        self.assertEqual(machine.run_route(1, (2, 2, 2)), (1, "", 15))
        self.assertEqual(machine.run_route(0, (3, 3)), (0, "R", 0))
        self.assertEqual(machine.run_route(0, (3, 0, 2)), (1, "Rs", 7))
        self.assertEqual(machine.run_route(1, (1, 3, 3, 0)), (1, "sRs", 3))

    def test_long_routes_whose_letters_cancel(self):
        machine = machine_with(1, (0, 0, "srsrsrsr", 1), (0, 0, "RsRsRsRs", 2), (0, 0, "s", 3))
        with within(5):
            self.assertEqual(machine.run_route(0, (0,) * 3000 + (1,) * 3000), (0, "", 9000))
            self.assertEqual(machine.run_route(0, (0, 1) * 3000), (0, "", 9000))
            self.assertEqual(machine.run_route(0, (2,) * 10001), (0, "s", 30003))
            end, word, cost = machine.run_route(0, (0,) * 3000 + (1,) * 2999)
        self.assertEqual((end, word, cost), (0, "srsrsrsr", 8998))

    def test_long_words(self):
        machine = machine_with(2, (0, 1, "rsrsrsrs", 9), (1, 0, "", 0))
        self.assertEqual(machine.run_route(0, (0, 1) * 2000), (0, "rs" * 8000, 18000))

    def test_word_and_cost_are_those_of_the_edges(self):
        draw = random.Random(4)
        for machine in some_machines(40, edges=8):
            for place in range(len(machine)):
                at, route, word, cost = place, [], "", 0
                for _ in range(12):
                    leaving = [item for item in machine.edges().items() if item[1][0] == at]
                    if leaving:
                        number, edge = draw.choice(leaving)
                        route.append(number)
                        at, word, cost = edge[1], word + edge[2], cost + edge[3]
                self.assertEqual(machine.run_route(place, tuple(route)), (at, reduced_slowly(word), cost))

    def test_unknown_place(self):
        machine = two_places()
        for place in [2, -1, True, False, None, "0", (0,), [0], {}]:
            for route in [(), (0,), (7,), (0, 0), (True,)]:
                self.assert_unchanged(machine, UnknownPlace, "place", place, machine.run_route, place, route)

    def test_first_edge_at_fault(self):
        machine = machine_with(3, (0, 1, "s", 1), (1, 0, "s", 1), (2, 2, "r", 1), (0, 0, "", 0))
        machine.remove_edge(3)
        for route, error, number in [
            ((4,), UnknownEdge, 4),
            ((3,), UnknownEdge, 3),
            ((-1,), UnknownEdge, -1),
            ((True,), UnknownEdge, True),
            ((False,), UnknownEdge, False),
            ((0, True), UnknownEdge, True),
            ((0, None), UnknownEdge, None),
            (("0",), UnknownEdge, "0"),
            (((0,),), UnknownEdge, (0,)),
            (([],), UnknownEdge, []),
            ((1,), WrongPlace, 1),
            ((2,), WrongPlace, 2),
            ((0, 0), WrongPlace, 0),
            ((0, 1, 0, 2), WrongPlace, 2),
            ((1, 9), WrongPlace, 1),
            ((9, 1), UnknownEdge, 9),
            ((0, 9, 0), UnknownEdge, 9),
            ((0, 0, 9), WrongPlace, 0),
            ((0, 1, 3, 2), UnknownEdge, 3),
            ((0, 1) * 2000 + (1, 3), WrongPlace, 1),
        ]:
            self.assert_unchanged(machine, error, "number", number, machine.run_route, 0, route)

    def test_routes_after_edits(self):
        machine = two_places()
        machine.reroute_edge(0, 1, 1)
        self.assertEqual(machine.run_route(1, (0, 0, 1)), (0, "rs", 5))
        self.assert_unchanged(machine, WrongPlace, "number", 0, machine.run_route, 0, (0,))
        machine.remove_edge(1)
        self.assert_unchanged(machine, UnknownEdge, "number", 1, machine.run_route, 1, (0, 1))


if __name__ == "__main__":
    unittest.main()
