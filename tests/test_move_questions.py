"""Point 13 for moves: which words routes have, the least cost, and the errors."""

import unittest

from fracwalk.derivations import write_route
from fracwalk.errors import LimitExceeded, NotAWord, NotReduced, UnknownPlace
from fracwalk.machines import Machine
from fracwalk.questions import ask_move, check_move
from fracwalk.words import reduce_word
from tests.checkers import is_word_verdict
from tests.helpers import STRANGE_VALUES, in_form, matrix_of, reduced_words, within
from tests.machine_helpers import full_machine, growing_levels, machine_with, some_machines, snapshot, two_places
from tests.question_helpers import WORDS, QuestionCase, cheapest_moves


class MoveCase(QuestionCase):
    def assert_verdict(self, expected, machine, start, place, word):
        """The verdict has this cost, or is "barred" for None, and its certificate is right."""
        before = snapshot(machine)
        verdict = ask_move(machine, start, place, word)
        self.assertEqual(snapshot(machine), before)
        self.assertIs(type(verdict), tuple)
        self.assertEqual(verdict[0], "barred" if expected is None else "reached")
        self.assertEqual(len(verdict), 2 if expected is None else 4)
        self.assertIs(type(verdict[-1]), dict)
        if expected is not None:
            self.assertEqual(verdict[1], expected)
            self.assertIs(type(verdict[1]), int)
            self.assertLessEqual(len(verdict[2][0]), 4 * len(machine.system(start).states) ** 2)
        self.assertTrue(is_word_verdict(verdict, machine.system(start), word, (-1, place)))
        self.assertIs(check_move(machine, start, place, word, verdict), True)
        return verdict


class Answers(MoveCase):
    def test_example(self):
        machine = two_places()
        self.assertEqual(ask_move(machine, 0, 1, "rs")[:2], ("reached", 2))
        self.assertEqual(ask_move(machine, 0, 1, "rsrs")[0], "barred")
        self.assert_verdict(2, machine, 0, 1, "rs")
        self.assert_verdict(None, machine, 0, 1, "rsrs")
        self.assert_verdict(1, machine, 1, 0, "sR")
        self.assert_verdict(0, machine, 0, 0, "")
        self.assert_verdict(None, machine, 0, 1, "")
        self.assert_verdict(None, machine, 0, 1, "sR")

    def test_empty_word(self):
        machine = machine_with(3, (0, 1, "s", 2), (1, 2, "s", 3), (1, 0, "s", 1), (2, 0, "", 4))
        for start, place, cost in [
            (0, 0, 0), (1, 1, 0), (2, 2, 0), (0, 2, 5), (2, 0, 4), (0, 1, None), (1, 2, None), (1, 0, None),
        ]:
            self.assert_verdict(cost, machine, start, place, "")
        for place in range(12):
            self.assert_verdict(0, Machine(12), place, place, "")
            self.assert_verdict(None, Machine(12), place, (place + 1) % 12, "")
            self.assert_verdict(None, Machine(12), place, place, "s")

    def test_empty_word_along_a_loop_of_cost_0(self):
        machine = machine_with(1, (0, 0, "", 0), (0, 0, "s", 0))
        self.assert_verdict(0, machine, 0, 0, "")
        self.assert_verdict(0, machine, 0, 0, "s")
        self.assert_verdict(None, machine, 0, 0, "r")

    def test_least_of_several_routes(self):
        machine = machine_with(
            3, (0, 1, "rs", 9), (0, 1, "rs", 7), (0, 2, "", 2), (2, 1, "rs", 3), (2, 2, "s", 0), (2, 1, "r", 6)
        )
        self.assert_verdict(5, machine, 0, 1, "rs")
        self.assert_verdict(8, machine, 0, 1, "r")
        self.assert_verdict(5, machine, 0, 1, "srs")

    def test_letters_that_cancel(self):
        machine = machine_with(1, (0, 0, "r", 1))
        for word, cost in [("", 0), ("r", 1), ("R", 2), ("s", None), ("rs", None)]:
            self.assert_verdict(cost, machine, 0, 0, word)
        machine = machine_with(2, (0, 0, "srsrsrsr", 1), (0, 1, "RsRsRsRs", 3))
        for times in range(7):
            self.assert_verdict(4 if times == 0 else 3 + times + 1, machine, 0, 1, "sr" * 4 * times)
        self.assert_verdict(3, machine, 0, 1, "RsRsRsRs")
        self.assert_verdict(None, machine, 0, 1, "srsr")

    def test_words_within_an_edge(self):
        machine = machine_with(1, (0, 0, "srs", 1))
        for word in ["s", "sr", "rs", "r"]:
            self.assert_verdict(None, machine, 0, 0, word)
        self.assert_verdict(2, machine, 0, 0, "sRs")

    def test_routes_walked_by_matrices(self):
        reached = barred = 0
        for machine in some_machines(70, places=3, edges=5, longest=3, seed=21):
            costs = cheapest_moves(machine, 0, 60)
            for place in range(len(machine)):
                for word in reduced_words(3):
                    expected = costs.get((place, in_form(matrix_of(word))))
                    self.assert_verdict(expected, machine, 0, place, word)
                    reached += expected is not None
                    barred += expected is None
        self.assertGreater(reached, 400)
        self.assertGreater(barred, 400)

    def test_all_words_of_routes_are_reached(self):
        for machine in some_machines(25, places=3, edges=4, longest=3, seed=8):
            for start in range(len(machine)):
                for (place, matrix), cost in cheapest_moves(machine, start, 9).items():
                    if matrix in WORDS:
                        verdict = ask_move(machine, start, place, WORDS[matrix])
                        self.assertEqual(verdict[0], "reached")
                        self.assertLessEqual(verdict[1], cost)

    def test_derivations_write_routes(self):
        for machine in some_machines(40, seed=4):
            for place in range(len(machine)):
                for word in reduced_words(3):
                    verdict = ask_move(machine, 0, place, word)
                    if verdict[0] == "reached":
                        route = write_route(verdict[2], machine.system(0), limit=10000)
                        self.assertEqual(machine.run_route(0, route), (place, word, verdict[1]))

    def test_edited_machines(self):
        machine = two_places()
        held = self.assert_verdict(2, machine, 0, 1, "rs")
        cheap = machine.add_edge(0, 1, "rs", 1)
        self.assert_verdict(1, machine, 0, 1, "rs")
        machine.remove_edge(0)
        self.assert_verdict(1, machine, 0, 1, "rs")
        machine.reroute_edge(cheap, 1, 1)
        self.assert_verdict(None, machine, 0, 1, "rs")
        self.assert_verdict(1, machine, 1, 1, "rs")
        self.assert_verdict(0, machine, 1, 1, "")
        self.assertIs(check_move(machine, 0, 1, "rs", held), False)

    def test_answers_are_new(self):
        machine = two_places()
        for word, cost in [("rs", 2), ("rsrs", None)]:
            first = ask_move(machine, 0, 1, word)
            first[-1].clear()
            second = self.assert_verdict(cost, machine, 0, 1, word)
            second[-1]["", (-1, 0), (-1, 0)] = 5
            self.assert_verdict(cost, machine, 0, 1, word)


class Limits(MoveCase):
    def test_words_of_60_and_of_61_letters(self):
        machine = machine_with(1, (0, 0, "rs", 1))
        self.assert_verdict(30, machine, 0, 0, "rs" * 30)
        self.assert_limit(machine, 60, ask_move, machine, 0, 0, "rs" * 30 + "r")
        self.assert_limit(machine, 60, ask_move, machine, 0, 0, "rs" * 31)
        self.assert_verdict(None, machine, 0, 0, "sr" * 30)
        self.assert_verdict(None, machine, 0, 0, "sr" * 29 + "s")
        self.assert_limit(machine, 60, ask_move, machine, 0, 0, "sr" * 30 + "s")

    def test_full_machines_without_delay(self):
        for seed in range(3):
            machine = full_machine(seed)
            for word in ["", "s", "srsRsrsr", "sr" * 30, "RsrsrsRsRs" * 6]:
                with within(3):
                    verdict = ask_move(machine, 3, 9, word)
                    self.assertIs(check_move(machine, 3, 9, word, verdict), True)
                self.assertTrue(is_word_verdict(verdict, machine.system(3), word, (-1, 9)))
                self.assertLessEqual(len(verdict[2][0]), 1600)

    def test_routes_that_double_from_level_to_level(self):
        # From some level on, detours over words that cancel each other are cheaper.
        for loop, costs in [("r", [9, 18, 36, 72, 90]), ("R", [9, 27, 81, 72, 99])]:
            for levels, cost in enumerate(costs):
                machine = growing_levels(levels, loop)
                start, end = 2 * levels, 2 * levels + 1
                with within(3):
                    verdict = self.assert_verdict(cost, machine, start, end, "")
                    self.assert_verdict(None, machine, start, end, "s")
                route = write_route(verdict[2], machine.system(start), limit=10000)
                self.assertEqual(machine.run_route(start, route), (end, "", cost))
                self.assertEqual(9 * route.count(0), cost)
                self.assertLess(len(verdict[2][0]), 60)

    def test_levels_beside_a_search(self):
        for loop in ("r", "R"):
            machine = growing_levels(2, loop)
            costs = cheapest_moves(machine, 4, 60)
            for place in range(6):
                for word in reduced_words(4):
                    self.assert_verdict(costs.get((place, in_form(matrix_of(word)))), machine, 4, place, word)


class Errors(MoveCase):
    def test_unknown_places(self):
        machine = two_places()
        for place in [2, -1, 12, 10**59]:
            self.assert_unchanged(machine, UnknownPlace, "place", place, ask_move, machine, place, 0, "rs")
            self.assert_unchanged(machine, UnknownPlace, "place", place, ask_move, machine, 0, place, "rs")

    def test_words(self):
        machine = two_places()
        for value in STRANGE_VALUES + ["x", "rsx", "S", "r s", " ", "s\n", "rsrsrsx" * 20, b"rs"]:
            self.assert_unchanged(machine, NotAWord, "value", value, ask_move, machine, 0, 1, value)
        for word in ["ss", "rr", "rR", "Rr", "RR", "srrs", "rss", "sr" * 40 + "r", "s" * 61]:
            self.assertNotEqual(reduce_word(word), word)
            self.assert_unchanged(machine, NotReduced, "word", word, ask_move, machine, 0, 1, word)

    def test_the_first_error_of_several(self):
        machine = two_places()
        long = "rs" * 40
        for args, error, name, kept in [
            ((5, 6, "x"), UnknownPlace, "place", 5),
            ((0, 6, "x"), UnknownPlace, "place", 6),
            ((5, 0, long), UnknownPlace, "place", 5),
            ((0, 6, "ss"), UnknownPlace, "place", 6),
            ((0, 6, long), UnknownPlace, "place", 6),
            ((0, 1, "ssx"), NotAWord, "value", "ssx"),
            ((0, 1, long + "x"), NotAWord, "value", long + "x"),
            ((0, 1, long + "ss"), NotReduced, "word", long + "ss"),
            ((0, 1, long), LimitExceeded, "limit", 60),
        ]:
            self.assert_unchanged(machine, error, name, kept, ask_move, machine, *args)


if __name__ == "__main__":
    unittest.main()
