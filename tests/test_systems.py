"""Points 8 and 9: states and steps of a machine, and those with the prelude for a value."""

import itertools
import unittest

from fracwalk.errors import LimitExceeded, NotAValue, UnknownPlace
from fracwalk.machines import Machine, System
from fracwalk.moves import act
from fracwalk.words import LETTER_MOVES, value_of, value_word
from tests.helpers import STRANGE_VALUES, begins_as_value_word, reduced_words, small_values
from tests.machine_helpers import (
    MachineCase,
    fields,
    full_machine,
    machine_with,
    snapshot,
    some_machines,
    two_places,
)

STRANGE_PLACES = [2, -1, 12, 10**59, True, False, None, "0", (0,), (-1, 0), [0], {}]


def plain_steps(number, start, end, word, cost):
    """The steps of one edge: the state before and behind each letter."""
    if not word:
        return {(start, "", end, cost, number, 0)}
    last = len(word) - 1
    steps = set()
    for at in range(len(word)):
        before = start if at == 0 else (number, at)
        behind = end if at == last else (number, at + 1)
        steps.add((before, word[at], behind, cost if at == 0 else 0, number, at))
    return steps


def plain_system(machine):
    """The sets of states and steps of a machine."""
    states = {(-1, place) for place in range(len(machine))}
    steps = set()
    for number, (start, end, word, cost) in machine.edges().items():
        states |= {(number, at) for at in range(1, len(word))}
        steps |= plain_steps(number, (-1, start), (-1, end), word, cost)
    return states, steps


class SystemCase(MachineCase):
    def assert_system(self, system, states, steps, start):
        """The fields are tuples, the states ascend, each step stands once."""
        self.assertIs(type(system), System)
        self.assertIs(type(system.states), tuple)
        self.assertEqual(list(system.states), sorted(states))
        self.assertIs(type(system.steps), tuple)
        self.assertEqual(sorted(system.steps), sorted(steps))
        self.assertEqual(system.start, start)
        for step in system.steps:
            self.assertEqual([type(part) for part in step], [tuple, str, tuple, int, int, int])
            self.assertIs(type(step), tuple)


class Fields(SystemCase):
    def test_fields(self):
        states = ((-1, 0), (-1, 1))
        steps = (((-1, 0), "s", (-1, 1), 3, 0, 0),)
        system = System(states, steps, (-1, 0))
        self.assertEqual(fields(system), (states, steps, (-1, 0)))
        system = System(start=(-1, 1), steps=(), states=states)
        self.assertEqual(fields(system), (states, (), (-1, 1)))


class Systems(SystemCase):
    def test_example(self):
        self.assert_system(
            two_places().system(0),
            [(-1, 0), (-1, 1), (0, 1), (1, 1)],
            [
                ((-1, 0), "r", (0, 1), 2, 0, 0),
                ((0, 1), "s", (-1, 1), 0, 0, 1),
                ((-1, 1), "s", (1, 1), 1, 1, 0),
                ((1, 1), "R", (-1, 0), 0, 1, 1),
            ],
            (-1, 0),
        )

    def test_words_of_0_1_2_and_8_letters(self):
        machine = machine_with(3, (0, 2, "", 4), (1, 1, "R", 9), (2, 0, "sr", 3), (0, 1, "srsRsrsR", 7))
        self.assert_system(
            machine.system(2),
            [(-1, 0), (-1, 1), (-1, 2), (2, 1), (3, 1), (3, 2), (3, 3), (3, 4), (3, 5), (3, 6), (3, 7)],
            [
                ((-1, 0), "", (-1, 2), 4, 0, 0),
                ((-1, 1), "R", (-1, 1), 9, 1, 0),
                ((-1, 2), "s", (2, 1), 3, 2, 0),
                ((2, 1), "r", (-1, 0), 0, 2, 1),
                ((-1, 0), "s", (3, 1), 7, 3, 0),
                ((3, 1), "r", (3, 2), 0, 3, 1),
                ((3, 2), "s", (3, 3), 0, 3, 2),
                ((3, 3), "R", (3, 4), 0, 3, 3),
                ((3, 4), "s", (3, 5), 0, 3, 4),
                ((3, 5), "r", (3, 6), 0, 3, 5),
                ((3, 6), "s", (3, 7), 0, 3, 6),
                ((3, 7), "R", (-1, 1), 0, 3, 7),
            ],
            (-1, 2),
        )

    def test_no_edges(self):
        for places in range(1, 13):
            for place in range(places):
                states = [(-1, k) for k in range(places)]
                self.assert_system(Machine(places).system(place), states, [], (-1, place))

    def test_equal_edges_have_steps_of_their_own(self):
        machine = machine_with(1, (0, 0, "s", 1), (0, 0, "s", 1), (0, 0, "", 1), (0, 0, "", 1))
        self.assertEqual(sorted(step[4] for step in machine.system(0).steps), [0, 1, 2, 3])
        self.assert_system(machine.system(0), *plain_system(machine), (-1, 0))

    def test_removed_and_rerouted_edges(self):
        machine = machine_with(3, (0, 1, "rsr", 2), (1, 0, "sR", 1), (1, 2, "", 5))
        before = machine.system(0)
        kept = fields(before)
        machine.remove_edge(1)
        machine.reroute_edge(0, 2, 2)
        machine.add_edge(0, 0, "s", 0)
        self.assert_system(
            machine.system(0),
            [(-1, 0), (-1, 1), (-1, 2), (0, 1), (0, 2)],
            [
                ((-1, 2), "r", (0, 1), 2, 0, 0),
                ((0, 1), "s", (0, 2), 0, 0, 1),
                ((0, 2), "r", (-1, 2), 0, 0, 2),
                ((-1, 1), "", (-1, 2), 5, 2, 0),
                ((-1, 0), "s", (-1, 0), 0, 3, 0),
            ],
            (-1, 0),
        )
        self.assertEqual(fields(before), kept)

    def test_all_reduced_words(self):
        for word in reduced_words(8):
            machine = machine_with(2, (1, 0, word, 6))
            self.assert_system(machine.system(1), *plain_system(machine), (-1, 1))

    def test_some_machines(self):
        machines = some_machines(60, places=5, edges=8, longest=4) + [full_machine(seed) for seed in range(3)]
        for machine in machines:
            before = snapshot(machine)
            for place in range(len(machine)):
                self.assert_system(machine.system(place), *plain_system(machine), (-1, place))
                self.assert_system(machine.twin().system(place), *plain_system(machine), (-1, place))
            self.assertEqual(snapshot(machine), before)

    def test_unknown_places(self):
        machine = two_places()
        for place in STRANGE_PLACES:
            self.assert_unchanged(machine, UnknownPlace, "place", place, machine.system, place)


class ValueSystems(SystemCase):
    def assert_prelude(self, machine, place, value, word):
        """The system has the machine's states and steps, and those of the prelude with this value word."""
        states, steps = plain_system(machine)
        start = (-2, 0)
        states |= {start, (-2, 1), (-3, 1)} | {(-4, at) for at in range(1, len(word))}
        steps |= {
            (start, "r", (-2, 1), 0, -2, 0),
            ((-2, 1), "s", start, 0, -2, 1),
            (start, "s", (-3, 1), 0, -3, 0),
            ((-3, 1), "R", start, 0, -3, 1),
        }
        steps |= plain_steps(-4, start, (-1, place), word, 0)
        self.assert_system(machine.value_system(place, value), states, steps, start)

    def test_infinity(self):
        self.assert_prelude(two_places(), 1, (1, 0), "")
        steps = Machine(1).value_system(0, (1, 0)).steps
        self.assertEqual([step for step in steps if step[4] == -4], [((-2, 0), "", (-1, 0), 0, -4, 0)])

    def test_values(self):
        for value, word in [
            ((0, 1), "s"),
            ((-1, 1), "sr"),
            ((1, 1), "srs"),
            ((-2, 1), "srsR"),
            ((2, 1), "srsrs"),
            ((1, 2), "srsRs"),
            ((-1, 2), "srsr"),
            ((-2, 3), "srsRsr"),
        ]:
            for place in range(2):
                self.assert_prelude(two_places(), place, value, word)

    def test_states_of_the_prelude(self):
        self.assertEqual(
            Machine(1).value_system(0, (-2, 1)).states,
            ((-4, 1), (-4, 2), (-4, 3), (-3, 1), (-2, 0), (-2, 1), (-1, 0)),
        )

    def test_all_value_words_to_10_letters(self):
        machine = machine_with(1, (0, 0, "rs", 3))
        for word in reduced_words(10):
            if begins_as_value_word(word):
                self.assert_prelude(machine, 0, value_of(word), word)

    def test_some_machines(self):
        for machine in some_machines(20, places=4, edges=6) + [full_machine()]:
            before = snapshot(machine)
            for place, value in itertools.product(range(len(machine)), [(1, 0), (0, 1), (-3, 2)]):
                self.assert_prelude(machine, place, value, value_word(value))
            self.assertEqual(snapshot(machine), before)

    def test_full_machine_has_32_states(self):
        word = "srsrsrsrsr"
        machine = full_machine()
        self.assertEqual(len(machine.value_system(3, value_of(word)).states), 32)
        self.assert_prelude(machine, 3, value_of(word), word)

    def test_value_words_of_10_and_11_letters(self):
        machine = two_places()
        for word in ["srsrsrsrsr", "srsRsRsRsR", "srsRsrsRsr"]:
            self.assert_prelude(machine, 0, value_of(word), word)
            self.assert_limit(machine, 10, machine.value_system, 0, value_of(word + "s"))
        for value in [(5, 1), (1, 6), (10**59, 1), (1, 10**59), (-(10**59), 10**59 - 1), (1, -1 + 10**40)]:
            self.assert_limit(machine, 10, machine.value_system, 1, value)
        lengths = {value: len(value_word(value, limit=99)) for value in small_values(9)}
        for value, length in lengths.items():
            if length > 10:
                self.assert_limit(machine, 10, machine.value_system, 0, value)
            else:
                self.assert_prelude(machine, 0, value, value_word(value))

    def test_routes_of_the_prelude_hold_the_value(self):
        # The loops at the new start keep infinity, which the value word takes to the value.
        for value in small_values(3):
            system = Machine(1).value_system(0, value)
            held = {(system.start, (1, 0))}
            for _ in range(12):
                for state, at in list(held):
                    for step in system.steps:
                        if step[0] == state:
                            held.add((step[2], act(LETTER_MOVES[step[1]], at) if step[1] else at))
            self.assertEqual({at for state, at in held if state == system.start}, {(1, 0)})
            self.assertEqual({at for state, at in held if state == (-1, 0)}, {value})

    def test_not_a_value(self):
        machine = two_places()
        others = [(2, 4), (0, 2), (0, 0), (-1, 0), (2, 0), (1, -1), (0, -1), (True, 1), (1, True), (1, False)]
        others += [(1,), (1, 2, 3), [1, 2], "1/2", (10**59, 10**58), ("1", 2), (None, None)]
        for value in STRANGE_VALUES + others:
            self.assert_unchanged(machine, NotAValue, "value", value, machine.value_system, 0, value)

    def test_the_first_error_of_several(self):
        machine = two_places()
        for place in STRANGE_PLACES:
            for value in [(0, 1), (5, 1), (2, 4), None, []]:
                self.assert_unchanged(machine, UnknownPlace, "place", place, machine.value_system, place, value)
        self.assert_unchanged(machine, NotAValue, "value", (10, 2), machine.value_system, 1, (10, 2))
        self.assert_limit(machine, 10, machine.value_system, 1, (5, 1))


if __name__ == "__main__":
    unittest.main()
