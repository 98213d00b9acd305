"""Points 3 and 13 for values: which values can be held, the least cost, the errors, and the checker."""

import unittest

from fracwalk.derivations import write_route
from fracwalk.errors import LimitExceeded, NotAValue, UnknownPlace
from fracwalk.machines import Machine
from fracwalk.moves import act
from fracwalk.questions import ask_move
from fracwalk.valuequestions import ask_value, check_value
from fracwalk.words import move_of, value_of, value_word
from tests.checkers import is_word_verdict
from tests.helpers import STRANGE_VALUES, small_values, within
from tests.machine_helpers import full_machine, machine_with, some_machines, snapshot, two_places
from tests.question_helpers import QuestionCase, cheapest_values, value_words

INFINITY = (1, 0)
TEN = value_of("srsrsrsrsr")
ELEVEN = value_of("srsrsrsrsrs")
SIXTY = value_of("sr" * 30)
SIXTY_ONE = value_of("sr" * 30 + "s")


def answer(verdict):
    """What a verdict says, without its certificate."""
    return verdict[:2] if verdict[0] == "reached" else verdict[0]


class ValueCase(QuestionCase):
    def assert_verdict(self, expected, machine, start, value, place, target):
        """The verdict has this cost, or is "barred" for None, and its certificate is right."""
        before = snapshot(machine)
        verdict = ask_value(machine, start, value, place, target)
        self.assertEqual(snapshot(machine), before)
        self.assertEqual(verdict[0], "barred" if expected is None else "reached")
        self.assertEqual(len(verdict), 2 if expected is None else 4)
        self.assertIs(type(verdict[-1]), dict)
        system = machine.value_system(start, value)
        if expected is not None:
            self.assertEqual(verdict[1], expected)
            self.assertIs(type(verdict[1]), int)
            self.assertLessEqual(len(verdict[2][0]), 4 * len(system.states) ** 2)
        self.assertTrue(is_word_verdict(verdict, system, value_word(target), (-1, place)))
        self.assertIs(check_value(machine, start, value, place, target, verdict), True)
        return verdict


class Answers(ValueCase):
    def test_example(self):
        machine = two_places()
        self.assertEqual(ask_value(machine, 0, (0, 1), 1, (1, 1))[:2], ("reached", 2))
        self.assert_verdict(2, machine, 0, (0, 1), 1, (1, 1))
        self.assert_verdict(None, machine, 0, (0, 1), 1, (2, 1))
        self.assert_verdict(1, machine, 1, (0, 1), 0, (-1, 1))
        self.assert_verdict(None, machine, 1, (0, 1), 0, (0, 1))
        self.assert_verdict(2, machine, 0, INFINITY, 1, INFINITY)

    def test_the_value_itself_at_its_place(self):
        for machine in [Machine(1), two_places(), machine_with(2, (0, 0, "s", 0), (0, 1, "", 1))]:
            for value in small_values(3):
                for place in range(len(machine)):
                    self.assert_verdict(0, machine, place, value, place, value)

    def test_infinity_0_and_negative_values(self):
        # s takes infinity to 0 and back, and x to -1/x.
        machine = machine_with(2, (0, 1, "s", 3))
        for value, target in [(INFINITY, (0, 1)), ((0, 1), INFINITY), ((1, 1), (-1, 1)), ((-2, 1), (1, 2)),
            ((2, 1), (-1, 2))]:
            self.assert_verdict(3, machine, 0, value, 1, target)
            self.assert_verdict(None, machine, 0, value, 1, value)
        machine = machine_with(1, (0, 0, "sR", 1))
        for value, times in [((0, 1), 5), ((3, 1), 7), ((-1, 2), 3)]:
            target = (value[0] - times * value[1], value[1])
            self.assert_verdict(times, machine, 0, value, 0, target)
            self.assert_verdict(None, machine, 0, target, 0, value)
        self.assert_verdict(0, machine, 0, INFINITY, 0, INFINITY)
        self.assert_verdict(None, machine, 0, INFINITY, 0, (0, 1))

    def test_routes_that_leave_a_value_as_it_is(self):
        # x + 1 does nothing to infinity, however often it is done.
        machine = machine_with(2, (0, 1, "rs", 2), (0, 1, "rsrs", 1), (1, 1, "", 5), (0, 1, "sR", 9))
        self.assert_verdict(1, machine, 0, INFINITY, 1, INFINITY)
        self.assert_verdict(2, machine, 0, (0, 1), 1, (1, 1))
        self.assert_verdict(1, machine, 0, (0, 1), 1, (2, 1))
        self.assert_verdict(9, machine, 0, (0, 1), 1, (-1, 1))
        self.assert_verdict(None, machine, 0, (0, 1), 1, (0, 1))

    def test_fractions_walked(self):
        values = [INFINITY, (0, 1), (-1, 1), (1, 2), (3, 1), (-2, 3)]
        reached = barred = 0
        for at, machine in enumerate(some_machines(60, places=3, edges=5, longest=3, seed=13)):
            value = values[at % len(values)]
            costs = cheapest_values(machine, 0, value, 60)
            for place in range(len(machine)):
                for target in [value] + small_values(3):
                    expected = costs.get((place, target))
                    self.assert_verdict(expected, machine, 0, value, place, target)
                    reached += expected is not None
                    barred += expected is None
        self.assertGreater(reached, 400)
        self.assertGreater(barred, 400)

    def test_all_values_held_are_reached(self):
        words = value_words(9)
        for machine in some_machines(20, places=3, edges=4, longest=3, seed=17):
            for (place, target), cost in cheapest_values(machine, 0, (1, 2), 8).items():
                if target in words:
                    verdict = ask_value(machine, 0, (1, 2), place, target)
                    self.assertEqual(verdict[0], "reached")
                    self.assertLessEqual(verdict[1], cost)

    def test_derivations_write_routes(self):
        for machine in some_machines(30, seed=14):
            for place in range(len(machine)):
                for value in [INFINITY, (0, 1), (-1, 2)]:
                    for target in small_values(2):
                        verdict = ask_value(machine, 0, value, place, target)
                        if verdict[0] == "reached":
                            route = write_route(verdict[2], machine.value_system(0, value), limit=10000)
                            end, word, cost = machine.run_route(0, route)
                            self.assertEqual((end, cost), (place, verdict[1]))
                            self.assertEqual(act(move_of(word), value), target)

    def test_edited_machines(self):
        machine = two_places()
        held = self.assert_verdict(2, machine, 0, (0, 1), 1, (1, 1))
        machine.add_edge(0, 1, "rs", 1)
        self.assert_verdict(1, machine, 0, (0, 1), 1, (1, 1))
        self.assertIs(check_value(machine, 0, (0, 1), 1, (1, 1), held), False)
        machine.remove_edge(0)
        machine.remove_edge(2)
        self.assert_verdict(None, machine, 0, (0, 1), 1, (1, 1))

    def test_answers_are_new(self):
        machine = two_places()
        for target, cost in [((1, 1), 2), ((2, 1), None)]:
            ask_value(machine, 0, (0, 1), 1, target)[-1].clear()
            self.assert_verdict(cost, machine, 0, (0, 1), 1, target)


class Limits(ValueCase):
    def test_values_at_the_limits(self):
        self.assertEqual([len(value_word(value, limit=99)) for value in (TEN, ELEVEN, SIXTY, SIXTY_ONE)],
            [10, 11, 60, 61])
        machine = machine_with(1, (0, 0, "sr", 1), (0, 0, "Rs", 1))
        self.assert_verdict(25, machine, 0, TEN, 0, SIXTY)
        self.assert_verdict(5, machine, 0, TEN, 0, INFINITY)
        self.assert_verdict(30, machine, 0, INFINITY, 0, SIXTY)
        self.assert_verdict(None, Machine(1), 0, TEN, 0, SIXTY)
        self.assert_limit(machine, 10, ask_value, machine, 0, ELEVEN, 0, SIXTY)
        self.assert_limit(machine, 60, ask_value, machine, 0, TEN, 0, SIXTY_ONE)
        self.assert_limit(machine, 10, ask_value, machine, 0, (10**59, 1), 0, INFINITY)
        self.assert_limit(machine, 60, ask_value, machine, 0, INFINITY, 0, (1, 10**59))

    def test_full_machines_without_delay(self):
        for seed in range(3):
            machine = full_machine(seed)
            for value, target in [(TEN, SIXTY), (INFINITY, TEN), (TEN, (0, 1)),
                (value_of("srsRsrsRsr"), value_of("sRsr"))]:
                with within(3):
                    verdict = ask_value(machine, 3, value, 9, target)
                    self.assertIs(check_value(machine, 3, value, 9, target, verdict), True)
                self.assertTrue(is_word_verdict(verdict, machine.value_system(3, value), value_word(target), (-1, 9)))


class Errors(ValueCase):
    def test_unknown_places(self):
        machine = two_places()
        for place in [2, -1, 10**59]:
            call = (machine, UnknownPlace, "place", place, ask_value, machine)
            self.assert_unchanged(*call, place, (0, 1), 0, (1, 1))
            self.assert_unchanged(*call, 0, (0, 1), place, (1, 1))

    def test_no_values(self):
        machine = two_places()
        for value in STRANGE_VALUES + [(2, 2), (0, 2), (1, -1), (-1, 0), (0, 0), (2, 0), (True, 1), (1, True), (1,)]:
            self.assert_unchanged(machine, NotAValue, "value", value, ask_value, machine, 0, value, 1, (1, 1))
            self.assert_unchanged(machine, NotAValue, "value", value, ask_value, machine, 0, (1, 1), 1, value)

    def test_the_first_error_of_several(self):
        machine = two_places()
        for args, error, name, kept in [
            ((5, "v", 6, "t"), UnknownPlace, "place", 5),
            ((0, "v", 6, "t"), UnknownPlace, "place", 6),
            ((5, (0, 1), 0, (0, 1)), UnknownPlace, "place", 5),
            ((0, ELEVEN, 6, SIXTY_ONE), UnknownPlace, "place", 6),
            ((0, "v", 1, "t"), NotAValue, "value", "v"),
            ((0, (0, 1), 1, "t"), NotAValue, "value", "t"),
            ((0, "v", 1, SIXTY_ONE), NotAValue, "value", "v"),
            ((0, ELEVEN, 1, "t"), NotAValue, "value", "t"),
            ((0, ELEVEN, 1, SIXTY_ONE), LimitExceeded, "limit", 10),
            ((0, ELEVEN, 1, (0, 1)), LimitExceeded, "limit", 10),
            ((0, TEN, 1, SIXTY_ONE), LimitExceeded, "limit", 60),
        ]:
            self.assert_unchanged(machine, error, name, kept, ask_value, machine, *args)


class Checks(ValueCase):
    def setUp(self):
        self.machine = two_places()
        self.reached = ask_value(self.machine, 0, (0, 1), 1, (1, 1))
        self.barred = ask_value(self.machine, 0, (0, 1), 1, (2, 1))

    def assert_for(self, expected, target, verdict, machine=None, start=0, value=(0, 1), place=1):
        machine = self.machine if machine is None else machine
        self.assert_checked(
            expected, lambda near: check_value(machine, start, value, place, target, near), verdict, [machine]
        )

    def test_own_verdicts(self):
        self.assert_for(True, (1, 1), self.reached)
        self.assert_for(True, (2, 1), self.barred)

    def test_another_kind_or_cost(self):
        _, cost, derivation, table = self.reached
        self.assert_for(False, (1, 1), ("barred", table))
        self.assert_for(False, (2, 1), ("reached", 2, derivation, table))
        for other in [0, 1, 3, -2, None, True, False, "2"]:
            self.assert_for(False, (1, 1), ("reached", other, derivation, table))
        machine = machine_with(2, (0, 1, "s", 1))
        verdict = ask_value(machine, 0, (0, 1), 1, INFINITY)
        self.assert_for(True, INFINITY, verdict, machine)
        self.assert_for(False, INFINITY, ("reached", True, *verdict[2:]), machine)

    def test_other_questions(self):
        self.assert_for(False, (2, 1), self.reached)
        self.assert_for(False, (0, 1), self.reached)
        self.assert_for(False, (1, 1), self.barred)
        self.assert_for(False, (1, 1), self.reached, start=1)
        self.assert_for(False, (1, 1), self.reached, place=0)
        self.assert_for(False, (1, 1), self.reached, value=INFINITY)
        self.assert_for(False, (1, 1), self.reached, value=(0, 1), machine=Machine(2))
        self.assert_for(False, (2, 1), self.barred, value=(1, 1))

    def test_certificates_without_the_prelude(self):
        self.assert_for(False, (1, 1), ask_move(self.machine, 0, 1, "rs"))
        self.assert_for(False, (1, 1), ask_move(self.machine, 0, 1, "srs"))
        self.assert_for(False, (2, 1), ask_move(self.machine, 0, 1, "rsrs"))

    def test_tuples_and_tables(self):
        for target, verdict in [((1, 1), self.reached), ((2, 1), self.barred)]:
            for other in [verdict[:-1], verdict + (None,), verdict + verdict, list(verdict), (verdict,), verdict[::-1]]:
                self.assert_for(False, target, other)
            for thing in [None, (), list(verdict[-1].items()), {}]:
                self.assert_for(False, target, verdict[:-1] + (thing,))
            start = ("", (-2, 0), (-2, 0))
            self.assert_for(False, target, verdict[:-1] + ({**verdict[-1], start: 1},))
            without = {key: verdict[-1][key] for key in verdict[-1] if key != start}
            self.assert_for(False, target, verdict[:-1] + (without,))

    def test_after_edits_and_back(self):
        machine = self.machine
        more = machine.add_edge(0, 1, "rsrs", 1)
        self.assert_for(False, (2, 1), self.barred)
        self.assert_for(False, (1, 1), self.reached)
        machine.remove_edge(more)
        self.assert_for(True, (2, 1), self.barred)
        self.assert_for(True, (1, 1), self.reached)
        machine.reroute_edge(0, 0, 0)
        self.assert_for(False, (1, 1), self.reached)
        machine.reroute_edge(0, 0, 1)
        self.assert_for(True, (1, 1), self.reached)

    def test_arbitrary_values(self):
        for target in [(1, 1), (2, 1), INFINITY]:
            self.assert_only_false(lambda near: check_value(self.machine, 0, (0, 1), 1, target, near), [self.machine])

    def test_values_near_verdicts(self):
        values = [INFINITY, (0, 1), (-1, 1), (1, 2)]
        for at, machine in enumerate(some_machines(25, places=3, edges=5, longest=3, seed=33)):
            place, value = at % len(machine), values[at % 4]
            system = machine.value_system(0, value)
            for target in small_values(2)[at % 3 :: 3]:
                word = value_word(target)
                self.assert_variations(
                    lambda near: check_value(machine, 0, value, place, target, near),
                    lambda near: is_word_verdict(near, system, word, (-1, place)),
                    ask_value(machine, 0, value, place, target), [machine], answer, 10, seed=at,
                )


if __name__ == "__main__":
    unittest.main()
