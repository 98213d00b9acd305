"""Points 14 and 15: the lists of finite sets, what shows that a set is endless, limits and errors."""

import unittest

from fracwalk.derivations import write_route
from fracwalk.errors import LimitExceeded, NotAValue, UnknownPlace
from fracwalk.machines import Machine
from fracwalk.moves import act
from fracwalk.sets import check_list, list_set
from fracwalk.words import move_of, reduce_word, value_of, value_word
from tests.checkers import is_list_verdict
from tests.helpers import begins_as_value_word, reduced_words, small_values, within
from tests.machine_helpers import full_machine, machine_with, some_machines, snapshot, two_places
from tests.question_helpers import WORDS, QuestionCase, cheapest_moves, cheapest_values, in_order, value_words

INFINITY = (1, 0)
TEN = value_of("srsrsrsrsr")
ELEVEN = value_of("srsrsrsrsrs")
LONGEST = 7


def choices(places):
    """A chain of places with a loop r at each and s to the next one: many words, but no endless set."""
    machine = Machine(places)
    for place in range(places):
        machine.add_edge(place, place, "r", 1)
        if place > 0:
            machine.add_edge(place - 1, place, "s", 1)
    return machine


class SetCase(QuestionCase):
    def verdict_on(self, part, limit=1000):
        """The verdict, of the right form and with right evidence."""
        machine = part[1]
        before = snapshot(machine)
        verdict = list_set(part, limit=limit)
        self.assertEqual(snapshot(machine), before)
        self.assertIs(type(verdict), tuple)
        self.assertIn(verdict[0], ("finite", "endless"))
        self.assertTrue(is_list_verdict(part, verdict))
        self.assertIs(check_list(part, verdict), True)
        states = len((machine.system(0) if part[0] == "moves" else machine.value_system(0, part[3])).states)
        for derivation in verdict[2][0 if verdict[0] == "finite" else 1]:
            self.assertLessEqual(len(derivation[0]), 4 * states**2)
        return verdict

    def assert_finite(self, words, part, limit=1000):
        verdict = self.verdict_on(part, limit)
        self.assertEqual(verdict[:2], ("finite", words))
        return verdict

    def assert_endless(self, part, limit=1000):
        """The set is endless, and routes of it have the words u v^n w."""
        verdict = self.verdict_on(part, limit)
        self.assertEqual(verdict[0], "endless")
        u, v, w = verdict[1]
        self.assertNotEqual(v, "")
        routes = [write_route(derivation, None, limit=10000) for derivation in verdict[2][1]]
        for times in range(5):
            word = u + v * times + w
            end, done, _ = part[1].run_route(part[2], routes[0] + routes[1] * times + routes[2])
            self.assertEqual(end, part[-1])
            self.assertEqual(reduce_word(word), word)
            if part[0] == "moves":
                self.assertEqual(done, word)
            else:
                self.assertEqual(act(move_of(done), part[3]), value_of(word))
                self.assertTrue(begins_as_value_word(word))
        return verdict


class Moves(SetCase):
    def test_examples(self):
        machine = two_places()
        self.assertEqual(list_set(("moves", machine, 0, 1), limit=10)[:2], ("finite", ("rs",)))
        self.assert_finite(("rs",), ("moves", machine, 0, 1), 10)
        self.assert_finite(("",), ("moves", machine, 0, 0), 10)
        self.assert_finite(("sR",), ("moves", machine, 1, 0), 10)
        loop = machine_with(1, (0, 0, "rs", 1))
        self.assertEqual(list_set(("moves", loop, 0, 0), limit=10)[0], "endless")
        self.assert_endless(("moves", loop, 0, 0), 10)

    def test_empty_sets_and_sets_of_the_empty_word(self):
        machine = machine_with(4, (0, 1, "s", 1), (1, 1, "rs", 0), (2, 3, "", 1), (3, 2, "", 1))
        self.assert_finite((), ("moves", machine, 1, 0))
        self.assert_finite((), ("moves", machine, 0, 2))
        self.assert_finite((), ("moves", machine, 3, 1))
        self.assert_finite(("",), ("moves", machine, 0, 0))
        self.assert_finite(("",), ("moves", machine, 2, 2))
        self.assert_finite(("",), ("moves", machine, 2, 3))
        for place in range(12):
            self.assert_finite(("",), ("moves", Machine(12), place, place))
            self.assert_finite((), ("moves", Machine(12), place, (place + 5) % 12))

    def test_with_and_without_the_empty_word(self):
        machine = machine_with(2, (0, 1, "s", 1), (0, 1, "", 1), (0, 1, "r", 1))
        self.assert_finite(("", "s", "r"), ("moves", machine, 0, 1))
        machine.remove_edge(1)
        self.assert_finite(("s", "r"), ("moves", machine, 0, 1))
        machine.add_edge(1, 1, "s", 1)
        self.assert_finite(("", "s", "r", "rs"), ("moves", machine, 0, 1))

    def test_order_of_words(self):
        machine = machine_with(
            2, (0, 1, "Rs", 1), (0, 1, "R", 1), (0, 1, "sr", 1), (0, 1, "sRs", 1), (0, 1, "rsr", 1), (0, 1, "r", 1),
            (0, 1, "s", 1), (0, 1, "sR", 1), (0, 1, "rsR", 1), (0, 1, "", 1), (0, 1, "srs", 1), (0, 1, "rs", 1),
        )
        words = ("", "s", "r", "R", "sr", "sR", "rs", "Rs", "srs", "sRs", "rsr", "rsR")
        self.assert_finite(words, ("moves", machine, 0, 1))

    def test_one_word_by_several_routes(self):
        machine = machine_with(3, (0, 1, "s", 1), (0, 2, "s", 2), (1, 2, "", 0), (1, 2, "r", 0), (2, 2, "r", 1))
        self.assert_finite(("s", "sr", "sR"), ("moves", machine, 0, 2))

    def test_words_that_cancel_to_nothing(self):
        # The cycle 0 -> 1 -> 0 does nothing, so that going round adds no word.
        machine = machine_with(3, (0, 1, "rs", 0), (1, 0, "sR", 0), (1, 2, "r", 1), (0, 2, "s", 1))
        self.assert_finite(("s", "rsr"), ("moves", machine, 0, 2))
        machine = machine_with(1, (0, 0, "s", 1), (0, 0, "", 0))
        self.assert_finite(("", "s"), ("moves", machine, 0, 0))
        machine = machine_with(1, (0, 0, "r", 1))
        self.assert_finite(("", "r", "R"), ("moves", machine, 0, 0))
        machine = machine_with(1, (0, 0, "srs", 1))
        self.assert_finite(("", "srs", "sRs"), ("moves", machine, 0, 0))

    def test_cycles_that_do_not_reach_the_place(self):
        machine = machine_with(4, (0, 1, "s", 1), (0, 2, "r", 1), (2, 2, "sr", 1), (2, 3, "s", 1), (3, 2, "r", 1))
        self.assert_finite(("s",), ("moves", machine, 0, 1))
        self.assert_endless(("moves", machine, 0, 3))

    def test_cycles_to_which_no_word_leads(self):
        machine = machine_with(3, (0, 1, "s", 1), (2, 2, "rs", 1), (2, 1, "r", 1), (2, 0, "", 1))
        self.assert_finite(("s",), ("moves", machine, 0, 1))
        self.assert_endless(("moves", machine, 2, 1))

    def test_cycles_of_states_that_no_reduced_word_goes_round(self):
        # Twice along the loop s does nothing, and behind one s no other one is read.
        machine = machine_with(3, (0, 1, "r", 1), (1, 1, "s", 1), (1, 2, "s", 1))
        self.assert_finite(("r", "rs"), ("moves", machine, 0, 2))
        self.assert_finite(("r", "rs"), ("moves", machine, 0, 1))
        machine.add_edge(1, 1, "r", 1)
        self.assert_endless(("moves", machine, 0, 2))

    def words_of(self, machine, start, place):
        """The words of routes, as far as matrices with entries up to 60 lead."""
        found = cheapest_moves(machine, start, 60)
        words = [WORDS[matrix] for end, matrix in found if end == place and matrix in WORDS]
        return in_order(word for word in words if len(word) <= LONGEST)

    def test_endless_sets(self):
        for machine, start, place in [
            (machine_with(1, (0, 0, "s", 1), (0, 0, "r", 1)), 0, 0),
            (machine_with(1, (0, 0, "sR", 0)), 0, 0),
            (machine_with(2, (0, 1, "sr", 1), (1, 0, "", 1)), 0, 1),
            (machine_with(2, (0, 1, "sr", 1), (1, 0, "", 1)), 0, 0),
            (machine_with(2, (0, 0, "rsr", 1), (0, 1, "s", 1)), 0, 1),
            (machine_with(3, (0, 1, "Rs", 1), (1, 1, "rsRs", 1), (1, 2, "rs", 1)), 0, 2),
            (machine_with(2, (0, 1, "rs", 1), (1, 0, "rs", 1)), 0, 1),
        ]:
            for limit in (0, 1, 1000):
                self.assert_endless(("moves", machine, start, place), limit)

    def test_sets_beside_walks(self):
        finite = endless = 0
        for machine in some_machines(60, places=3, edges=5, longest=3, seed=41):
            for place in range(len(machine)):
                part = ("moves", machine, 0, place)
                walked = self.words_of(machine, 0, place)
                try:
                    verdict = self.verdict_on(part, 60)
                except LimitExceeded:
                    self.assertGreater(len(walked), 40)
                    continue
                if verdict[0] == "finite":
                    self.assertEqual(tuple(word for word in verdict[1] if len(word) <= LONGEST), walked)
                    finite += 1
                else:
                    self.assert_endless(part)
                    u, v, w = verdict[1]
                    for times in range(3):
                        if len(u + v * times + w) <= LONGEST:
                            self.assertIn(u + v * times + w, walked)
                    endless += 1
        self.assertGreater(finite, 50)
        self.assertGreater(endless, 20)

    def test_edited_machines(self):
        machine = two_places()
        part = ("moves", machine, 0, 1)
        first = self.assert_finite(("rs",), part)
        edge = machine.add_edge(0, 0, "rs", 1)
        second = self.assert_endless(part)
        self.assertIs(check_list(part, first), False)
        machine.remove_edge(edge)
        self.assert_finite(("rs",), part)
        self.assertIs(check_list(part, first), True)
        self.assertIs(check_list(part, second), False)
        machine.reroute_edge(0, 1, 0)
        self.assert_finite((), part)

    def test_answers_are_new(self):
        part = ("moves", two_places(), 0, 1)
        first = list_set(part, limit=5)
        first[2][1].clear()
        second = self.assert_finite(("rs",), part, 5)
        second[2][1]["", (-1, 0), (-1, 0)] = 7
        self.assert_finite(("rs",), part, 5)


class Values(SetCase):
    def test_examples(self):
        machine = two_places()
        self.assert_finite(("srs",), ("values", machine, 0, (0, 1), 1))
        self.assert_finite(("s",), ("values", machine, 0, (0, 1), 0))
        self.assert_finite(("",), ("values", machine, 0, INFINITY, 1))
        self.assert_finite((), ("values", Machine(2), 0, INFINITY, 1))
        self.assert_finite(("sr",), ("values", machine, 1, (0, 1), 0))

    def test_the_value_alone(self):
        for value in small_values(4):
            self.assert_finite((value_word(value),), ("values", Machine(2), 1, value, 1))
            self.assert_finite((), ("values", Machine(2), 1, value, 0))

    def test_infinity_is_held_along_endlessly_many_routes(self):
        machine = machine_with(1, (0, 0, "rs", 1))
        self.assert_endless(("moves", machine, 0, 0))
        self.assert_finite(("",), ("values", machine, 0, INFINITY, 0))
        self.assert_endless(("values", machine, 0, (0, 1), 0))
        machine.add_edge(0, 0, "sR", 1)
        self.assert_finite(("",), ("values", machine, 0, INFINITY, 0))

    def test_marks(self):
        # s alone is 0, and behind the first s only r follows: values with sR at the beginning are none.
        machine = machine_with(2, (0, 1, "s", 1), (0, 1, "sr", 1), (0, 1, "sR", 1), (0, 1, "srs", 1), (0, 1, "sRs", 1))
        held = {act(move_of(word), INFINITY) for word in ("s", "sr", "sR", "srs", "sRs")}
        words = in_order(value_word(value) for value in held)
        self.assertEqual(words, ("", "s", "sr", "srs"))
        self.assert_finite(words, ("values", machine, 0, INFINITY, 1))
        self.assert_finite(("s",), ("values", machine_with(1, (0, 0, "", 1)), 0, (0, 1), 0))

    def test_endless_sets(self):
        for machine, value in [
            (machine_with(1, (0, 0, "rs", 1)), (0, 1)),
            (machine_with(1, (0, 0, "sR", 1)), (1, 2)),
            (machine_with(1, (0, 0, "sr", 1)), INFINITY),
            (machine_with(1, (0, 0, "s", 1), (0, 0, "r", 1)), (-2, 1)),
            (machine_with(2, (0, 1, "srsr", 1), (1, 0, "", 1)), TEN),
        ]:
            for place in range(len(machine)):
                for limit in (0, 3):
                    self.assert_endless(("values", machine, 0, value, place), limit)

    def test_sets_beside_walks(self):
        finite = endless = 0
        words = value_words(9)
        for at, machine in enumerate(some_machines(50, places=3, edges=5, longest=3, seed=43)):
            value = [INFINITY, (0, 1), (-1, 1), (1, 2), (2, 1)][at % 5]
            costs = cheapest_values(machine, 0, value, 90)
            for place in range(len(machine)):
                held = [words[target] for end, target in costs if end == place and target in words]
                walked = in_order(word for word in held if len(word) <= LONGEST)
                part = ("values", machine, 0, value, place)
                try:
                    verdict = self.verdict_on(part, 60)
                except LimitExceeded:
                    self.assertGreater(len(walked), 20)
                    continue
                if verdict[0] == "finite":
                    self.assertEqual(tuple(word for word in verdict[1] if len(word) <= LONGEST), walked)
                    finite += 1
                else:
                    self.assert_endless(part)
                    endless += 1
        self.assertGreater(finite, 40)
        self.assertGreater(endless, 15)

    def test_answers_are_new(self):
        part = ("values", two_places(), 0, (0, 1), 1)
        list_set(part, limit=5)[2][1].clear()
        self.assert_finite(("srs",), part, 5)


class Limits(SetCase):
    def assert_too_many(self, part, limit):
        before = snapshot(part[1])
        with self.assertRaises(LimitExceeded) as caught:
            list_set(part, limit=limit)
        self.assertEqual(caught.exception.limit, limit)
        self.assertEqual(snapshot(part[1]), before)

    def assert_limits(self, part, count):
        """The limit counts exactly from the number of words on."""
        for limit in range(max(count - 2, 0), count):
            self.assert_too_many(part, limit)
        for limit in (count, count + 1, 1000):
            self.assertEqual(len(self.verdict_on(part, limit)[1]), count)

    def test_limits_around_the_number_of_words(self):
        for places, count in [(1, 3), (2, 9), (3, 21), (4, 45), (5, 93)]:
            self.assert_limits(("moves", choices(places), 0, places - 1), count)
        for places, count in [(1, 3), (2, 6), (3, 12), (4, 24)]:
            self.assert_limits(("values", choices(places), 0, (0, 1), places - 1), count)

    def test_limit_0(self):
        machine = two_places()
        self.assert_finite((), ("moves", Machine(2), 0, 1), 0)
        self.assert_finite((), ("values", Machine(2), 0, (0, 1), 1), 0)
        for part in [
            ("moves", machine, 0, 0), ("moves", machine, 0, 1), ("values", machine, 0, INFINITY, 0),
            ("values", machine, 0, (0, 1), 0), ("values", machine, 0, (0, 1), 1),
        ]:
            self.assert_limits(part, 1)

    def test_no_limit_for_endless_sets(self):
        # More words than the limit come before one that shows that the set is endless.
        machine = choices(4)
        machine.add_edge(3, 3, "srsrs", 1)
        for limit in (0, 1, 45, 1000):
            self.assert_endless(("moves", machine, 0, 3), limit)
            self.assert_endless(("values", machine, 0, (0, 1), 3), limit)

    def test_very_many_words_without_delay(self):
        machine = choices(12)
        for limit in (0, 100, 1000):
            for part in [("moves", machine, 0, 11), ("values", machine, 0, TEN, 11)]:
                with within(3):
                    self.assert_too_many(part, limit)
        for places, part, count in [
            (8, ("moves",), 765), (9, ("values", (0, 1)), 768), (8, ("values", TEN), 744),
        ]:
            part = (part[0], choices(places), 0, *part[1:], places - 1)
            with within(5):
                verdict = list_set(part, limit=1000)
                self.assertIs(check_list(part, verdict), True)
            self.assertEqual(len(verdict[1]), count)

    def test_full_machines_without_delay(self):
        for seed in range(3):
            machine = full_machine(seed)
            for part in [("moves", machine, 3, 9), ("values", machine, 3, TEN, 9)]:
                with within(3):
                    verdict = list_set(part, limit=10)
                    self.assertIs(check_list(part, verdict), True)
                self.assertEqual(verdict[0], "endless")
                self.assertTrue(is_list_verdict(part, verdict))

    def test_limit_is_by_name_only(self):
        part = ("moves", two_places(), 0, 1)
        with self.assertRaises(TypeError):
            list_set(part, 5)
        with self.assertRaises(TypeError):
            list_set(part)
        self.assertEqual(list_set(limit=5, part=part), list_set(part, limit=5))


class Errors(SetCase):
    def test_errors(self):
        machine = two_places()
        for part, limit, error, name, kept in [
            (("moves", machine, 2, 0), 5, UnknownPlace, "place", 2),
            (("moves", machine, 0, 2), 5, UnknownPlace, "place", 2),
            (("moves", machine, -1, 7), 5, UnknownPlace, "place", -1),
            (("moves", machine, 0, 7), 0, UnknownPlace, "place", 7),
            (("moves", machine, 0, 0), 0, LimitExceeded, "limit", 0),
            (("values", machine, 2, "v", 3), 5, UnknownPlace, "place", 2),
            (("values", machine, 0, "v", 3), 5, UnknownPlace, "place", 3),
            (("values", machine, 0, ELEVEN, 3), 0, UnknownPlace, "place", 3),
            (("values", machine, 0, (2, 2), 1), 5, NotAValue, "value", (2, 2)),
            (("values", machine, 0, [0, 1], 1), 0, NotAValue, "value", [0, 1]),
            (("values", machine, 0, (True, 1), 1), 0, NotAValue, "value", (True, 1)),
            (("values", machine, 0, ELEVEN, 1), 0, LimitExceeded, "limit", 10),
            (("values", machine, 0, (10**59, 1), 1), 5, LimitExceeded, "limit", 10),
            (("values", machine, 0, TEN, 0), 0, LimitExceeded, "limit", 0),
        ]:
            self.assert_unchanged(machine, error, name, kept, lambda: list_set(part, limit=limit))

    def test_words_of_all_lengths(self):
        # A machine for each reduced word, with this word alone.
        for word in reduced_words(4):
            self.assert_finite((word,), ("moves", machine_with(2, (0, 1, word, 1)), 0, 1), 1)


if __name__ == "__main__":
    unittest.main()
