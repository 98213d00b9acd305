"""Points 3 and 13: which verdicts on words check_move takes."""

import copy
import unittest

from fracwalk.machines import Machine
from fracwalk.questions import ask_move, check_move
from fracwalk.tables import least_table
from tests.checkers import is_word_verdict
from tests.helpers import reduced_words
from tests.machine_helpers import machine_with, some_machines, two_places
from tests.question_helpers import QuestionCase

P = (-1, 0)
Q = (-1, 1)


def answer(verdict):
    """What a verdict says, without its certificate."""
    return verdict[:2] if verdict[0] == "reached" else verdict[0]


class Checks(QuestionCase):
    def setUp(self):
        self.machine = two_places()
        self.reached = ask_move(self.machine, 0, 1, "rs")
        self.barred = ask_move(self.machine, 0, 1, "rsrs")

    def assert_for(self, expected, word, verdict, machine=None, start=0, place=1):
        machine = self.machine if machine is None else machine
        self.assert_checked(
            expected, lambda near: check_move(machine, start, place, word, near), verdict, [machine]
        )

    def test_own_verdicts(self):
        self.assert_for(True, "rs", self.reached)
        self.assert_for(True, "rsrs", self.barred)

    def test_another_kind(self):
        _, cost, derivation, table = self.reached
        self.assert_for(False, "rs", ("barred", table))
        self.assert_for(False, "rsrs", ("reached", 4, derivation, self.barred[1]))
        self.assert_for(False, "rs", ("barred", cost, derivation, table))
        self.assert_for(False, "rsrs", ("reached", self.barred[1]))
        for kind in ["Reached", "", None, 0, True, ["reached"], ("reached",), "met"]:
            self.assert_for(False, "rs", (kind, cost, derivation, table))
            self.assert_for(False, "rsrs", (kind, self.barred[1]))

    def test_another_cost(self):
        _, cost, derivation, table = self.reached
        for other in [0, 1, 3, -2, 4, 10**59, None, True, False, "2", (2,), [2], {}]:
            self.assert_for(False, "rs", ("reached", other, derivation, table))
        for cost in (0, 1):
            machine = machine_with(2, (0, 1, "s", cost))
            verdict = ask_move(machine, 0, 1, "s")
            self.assertEqual(verdict[1], cost)
            self.assert_for(True, "s", verdict, machine)
            self.assert_for(False, "s", ("reached", bool(cost), *verdict[2:]), machine)

    def test_a_right_cost_with_a_dearer_derivation(self):
        machine = machine_with(2, (0, 1, "s", 1), (0, 1, "s", 2))
        verdict = ask_move(machine, 0, 1, "s")
        dear = ((("s", P, Q, ("step", 1, 0)),), (0,))
        self.assert_for(True, "s", verdict, machine)
        self.assert_for(False, "s", ("reached", 2, dear, verdict[3]), machine)
        self.assert_for(False, "s", ("reached", 1, dear, verdict[3]), machine)
        self.assert_for(False, "s", ("reached", 2, verdict[2], verdict[3]), machine)

    def test_a_table_that_reads_less(self):
        # Each closed table that is smaller somewhere bounds less than the least cost.
        _, cost, derivation, table = self.reached
        lowered = {key: 0 for key in table}
        self.assertTrue(is_word_verdict(("barred", lowered), self.machine.system(0), "rsrs", Q))
        self.assert_for(False, "rs", ("reached", 2, derivation, lowered))
        self.assert_for(False, "rs", ("reached", 0, derivation, lowered))
        self.assert_for(True, "rsrs", ("barred", lowered))

    def test_other_tables(self):
        _, cost, derivation, table = self.reached
        for key in table:
            for worth in [table[key] + 1, table[key] - 1, True, False, None, "0", -1]:
                near = {**table, key: worth}
                plain = is_word_verdict(("reached", 2, derivation, near), self.machine.system(0), "rs", Q)
                self.assert_for(plain, "rs", ("reached", 2, derivation, near))
                plain = is_word_verdict(("barred", near), self.machine.system(0), "rsrs", Q)
                self.assert_for(plain, "rsrs", ("barred", near))
            without = {other: table[other] for other in table if other != key}
            plain = is_word_verdict(("reached", 2, derivation, without), self.machine.system(0), "rs", Q)
            self.assert_for(plain, "rs", ("reached", 2, derivation, without))
        more = {**table, ("x", P, Q): -1, None: [], ("", (-1, 7), (-1, 7)): "0", ("s", P, (-1, 9)): None}
        self.assert_for(True, "rs", ("reached", 2, derivation, more))
        self.assert_for(True, "rsrs", ("barred", more))
        for thing in [None, (), [], tuple(table.items()), list(table.items()), {}, 0, "table"]:
            self.assert_for(False, "rs", ("reached", 2, derivation, thing))
            self.assert_for(False, "rsrs", ("barred", thing))

    def test_other_derivations(self):
        _, cost, (items, ends), table = self.reached
        back = ask_move(self.machine, 1, 0, "sR")[2]
        twice = ask_move(machine_with(2, (0, 1, "rs", 2), (1, 1, "rs", 0)), 0, 1, "rsrs")[2]
        for derivation in [
            back, twice, (items, ends[::-1]), (items, ends + ends), (items, ends[:1]), (items, ()), ((), ()), (items,),
            (items, ends, ()), [items, ends], (list(items), ends), (items, list(ends)), None, (), 0,
            (items + (("r", P, P, ("step", 9, 0)),), ends), (items[1:], ends), (items, tuple(end + 1 for end in ends)),
        ]:
            self.assert_for(False, "rs", ("reached", 2, derivation, table))
        more = items + (("", P, P, ("stay",)),)
        self.assert_for(True, "rs", ("reached", 2, (more, ends), table))

    def test_tuples_cut_repeated_lengthened(self):
        for word, verdict in [("rs", self.reached), ("rsrs", self.barred)]:
            for other in [
                verdict[:-1], verdict[1:], verdict + (None,), verdict + verdict, verdict + verdict[-1:], verdict[::-1],
                (verdict,), list(verdict), (), verdict[:1], {"verdict": verdict}, verdict[:1] + verdict,
            ]:
                self.assert_for(False, word, other)

    def test_other_questions(self):
        reached, barred = self.reached, self.barred
        self.assert_for(False, "rsrs", reached)
        self.assert_for(False, "", reached)
        self.assert_for(False, "r", reached)
        self.assert_for(False, "rs", barred)
        self.assert_for(False, "rs", reached, start=1)
        self.assert_for(False, "rs", reached, place=0)
        self.assert_for(False, "rs", reached, machine=Machine(2))
        self.assert_for(False, "rs", reached, machine=machine_with(2, (0, 1, "rs", 3), (1, 0, "sR", 1)))
        self.assert_for(False, "rs", reached, machine=machine_with(2, (1, 0, "sR", 1), (0, 1, "rs", 2)))
        # The least table is closed on a machine with less steps, too, and from another start of its base.
        self.assert_for(True, "rsrs", barred, machine=Machine(2))
        self.assert_for(True, "rsrs", barred, start=1)
        self.assert_for(True, "srs", barred)

    def test_empty_word(self):
        verdict = ask_move(self.machine, 0, 0, "")
        self.assert_for(True, "", verdict, place=0)
        self.assert_for(False, "", verdict, place=1)
        self.assert_for(False, "", ("barred", verdict[3]), place=0)
        self.assert_for(True, "", ("barred", verdict[3]), place=1)
        self.assert_for(False, "", ("reached", 0, ((), ()), verdict[3]), place=0)

    def test_after_edits_and_back(self):
        machine = self.machine
        self.assert_for(True, "rs", self.reached)
        cheap = machine.add_edge(0, 1, "rs", 1)
        self.assert_for(False, "rs", self.reached)
        self.assert_for(True, "rs", ask_move(machine, 0, 1, "rs"))
        machine.remove_edge(cheap)
        self.assert_for(True, "rs", self.reached)
        machine.reroute_edge(0, 1, 1)
        self.assert_for(False, "rs", self.reached)
        self.assert_for(False, "rsrs", self.barred)
        machine.reroute_edge(0, 0, 1)
        self.assert_for(True, "rs", self.reached)
        self.assert_for(True, "rsrs", self.barred)
        dear = machine.add_edge(1, 0, "r", 9)
        self.assert_for(False, "rsrs", self.barred)
        machine.remove_edge(dear)
        self.assert_for(True, "rsrs", self.barred)
        machine.remove_edge(0)
        self.assert_for(False, "rs", self.reached)
        self.assert_for(True, "rs", ask_move(machine, 0, 1, "rs"))
        self.assertEqual(machine.add_edge(0, 1, "rs", 2), 4)
        # The same edge, but of another number.
        self.assert_for(False, "rs", self.reached)

    def test_arbitrary_values(self):
        machine = self.machine
        for word in ["rs", "rsrs", ""]:
            self.assert_only_false(lambda near: check_move(machine, 0, 1, word, near), [machine])

    def test_large_and_deep_values(self):
        deep = ()
        for _ in range(12):
            deep = (deep, [deep], {"a": deep}) if len(repr(deep)) < 3000 else (deep,)
        row = tuple(("", P, P, ("stay",)) for _ in range(4000))
        table = {("s", P, (-1, at)): at for at in range(5000)}
        for value in [
            deep, ("barred", deep), ("reached", 10**59, deep, deep), ("barred", table),
            ("reached", 2, (row, (0,)), table),
            tuple(range(19999)), ("reached", 2, (tuple(range(9000)), tuple(range(9000))), {}),
        ]:
            self.assert_for(False, "rs", value)

    def test_values_near_verdicts(self):
        asked = 0
        for at, machine in enumerate(some_machines(30, places=3, edges=5, longest=3, seed=31)):
            for word in reduced_words(3)[at % 5 :: 5]:
                place = at % len(machine)
                verdict = ask_move(machine, 0, place, word)
                system = machine.system(0)
                self.assert_variations(
                    lambda near: check_move(machine, 0, place, word, near),
                    lambda near: is_word_verdict(near, system, word, (-1, place)),
                    verdict, [machine], answer, 12, seed=at,
                )
                asked += 1
        self.assertGreater(asked, 80)

    def test_no_certificate_of_another_answer(self):
        # All parts of verdicts on other words, put together in other ways.
        machine = machine_with(2, (0, 1, "s", 1), (0, 1, "s", 2), (1, 1, "r", 0), (1, 0, "", 3))
        verdicts = [ask_move(machine, 0, 1, word) for word in reduced_words(3)]
        tables = [verdict[-1] for verdict in verdicts] + [{key: 0 for key in verdicts[0][-1]}, {}]
        derivations = [verdict[2] for verdict in verdicts if verdict[0] == "reached"]
        for word, verdict in zip(reduced_words(3), verdicts):
            for table in tables:
                made = [("barred", table)] + [
                    ("reached", cost, derivation, table) for derivation in derivations for cost in range(8)
                ]
                for near in made:
                    if check_move(machine, 0, 1, word, near):
                        self.assertEqual(answer(near), answer(verdict) if near[0] == "reached" else "barred")
                        self.assertEqual(near[0], verdict[0])

    def test_called_twice(self):
        before = copy.deepcopy(self.reached)
        for _ in range(2):
            self.assert_for(True, "rs", self.reached)
        self.assertEqual(self.reached, before)
        table, _, _ = least_table(self.machine.system(0))
        self.assertEqual(table, self.reached[3])


if __name__ == "__main__":
    unittest.main()
