"""Points 3, 16 and 17: which verdicts on two sets check_contained and check_met take."""

import itertools
import unittest

from fracwalk.comparisons import check_contained, check_met, contained, met
from fracwalk.machines import Machine
from fracwalk.questions import ask_move
from fracwalk.tables import least_table
from tests.checkers import ground, is_contained_verdict, is_met_verdict, letters_after, next_mark
from tests.machine_helpers import machine_with, some_machines, two_places
from tests.question_helpers import QuestionCase

P = (-1, 0)
Q = (-1, 1)
T = (-1, 2)


class CheckCase(QuestionCase):
    def assert_contained_check(self, one, other, expected, verdict):
        self.assertIs(bool(is_contained_verdict(one, other, verdict)), expected)
        self.assert_checked(expected, lambda near: check_contained(one, other, near), verdict, [one[1], other[1]])

    def assert_met_check(self, one, other, expected, verdict):
        self.assertIs(bool(is_met_verdict(one, other, verdict)), expected)
        self.assert_checked(expected, lambda near: check_met(one, other, near), verdict, [one[1], other[1]])


class Contained(CheckCase):
    def setUp(self):
        # Powers of "rs" of an even number, and all powers.
        self.first = machine_with(2, (0, 1, "rs", 1), (1, 0, "rs", 1))
        self.second = machine_with(3, (0, 0, "rs", 1), (0, 2, "s", 1), (1, 2, "r", 1))
        self.one = ("moves", self.first, 0, 0)
        self.other = ("moves", self.second, 0, 0)
        self.verdict = contained(self.one, self.other)
        self.table, self.items, self.pairs = self.verdict[1]

    def assert_for(self, expected, verdict):
        self.assert_contained_check(self.one, self.other, expected, verdict)

    def with_pairs(self, pairs):
        return ("contained", (self.table, self.items, pairs))

    def test_own_verdict(self):
        self.assertEqual(self.verdict[0], "contained")
        self.assert_for(True, self.verdict)

    def test_pairs_removed(self):
        for at in range(len(self.pairs)):
            self.assert_for(False, self.with_pairs(self.pairs[:at] + self.pairs[at + 1 :]))
        self.assert_for(False, self.with_pairs(()))

    def test_pairs_in_another_order_and_doubled(self):
        self.assert_for(True, self.with_pairs(self.pairs[::-1]))
        self.assert_for(True, self.with_pairs(self.pairs + self.pairs))

    def test_more_pairs(self):
        for pair, expected in [
            (("s", (5, 1), ()), False), (("s", (-1, 2), (P,)), False), (("s", T, ()), False), (("first", P, ()), False),
            (("", P, ()), False), ((None, P, ()), False), (("s", P, (Q, P)), False), (("s", P, (P, P)), False),
            (("s", P, ((9, 9),)), False), (("s", P, [P]), False), (("s", P, P), False), (("s", P), False),
            (("s", P, (P,), ()), False),
            (["s", P, (P,)], False), (("s", (-1, False), (P,)), False), (("s", P, ((-1, False),)), False),
            (None, False),
            (("s", [-1, 0], (P,)), False), (("s", P, None), False), (("r", P, (P,)), True), (("R", P, ()), True),
            (("r", Q, ()), True),
            (("R", (1, 1), (P, Q, T)), False), (("s", P, ()), False), (("start", P, ()), False),
        ]:
            self.assert_for(expected, self.with_pairs(self.pairs + (pair,)))

    def test_every_more_pair(self):
        states = self.second.system(0).states
        tuples = [some for count in range(3) for some in itertools.combinations(states, count)]
        taken = 0
        for mark in ("start", "s", "r", "R"):
            for state in self.first.system(0).states:
                for some in tuples:
                    verdict = self.with_pairs(self.pairs + ((mark, state, some),))
                    expected = bool(is_contained_verdict(self.one, self.other, verdict))
                    self.assert_for(expected, verdict)
                    taken += expected
        self.assertGreater(taken, 20)

    def test_states_outside_of_the_base(self):
        first = machine_with(3, (0, 1, "s", 1), (2, 1, "r", 1))
        second = machine_with(2, (0, 1, "s", 1))
        one, other = ("moves", first, 0, 1), ("moves", second, 0, 1)
        _, (table, items, pairs) = contained(one, other)
        self.assertNotIn(("", T, T), table)
        for mark, some in itertools.product(["start", "s", "r", "R"], [(), (P,), (Q,), (P, Q)]):
            self.assert_contained_check(one, other, True, ("contained", (table, items, pairs + ((mark, T, some),))))
        self.assert_contained_check(one, other, False, ("contained", (table, items, pairs + (("s", T, (T,)),))))
        # With place 2 in the base, r leads from it to the place, where the second one has to be in the tuple.
        wide = {**table, ("", T, T): 0, ("r", T, Q): 1}
        for mark, some, expected in [("s", (), False), ("s", (P,), False), ("r", (), True), ("start", (), False)]:
            self.assert_contained_check(one, other, expected, ("contained", (wide, items, pairs + ((mark, T, some),))))

    def test_the_place_is_asked_of_what_is_read_to(self):
        # A further triple at the place itself need not have the second one in its tuple.
        first, second = machine_with(2, (0, 1, "s", 1)), machine_with(2, (0, 1, "s", 1))
        one, other = ("moves", first, 0, 1), ("moves", second, 0, 1)
        _, (table, items, pairs) = contained(one, other)
        self.assert_contained_check(one, other, True, ("contained", (table, items, pairs + (("r", Q, ()),))))
        self.assert_contained_check(one, other, True, ("contained", (table, items, pairs + (("s", Q, (P,)),))))
        self.assert_contained_check(one, other, False, ("contained", (table, items, pairs + (("r", P, ()),))))

    def test_the_triple_of_the_starts(self):
        start = ("start", P, (P,))
        self.assertIn(start, self.pairs)
        without = tuple(pair for pair in self.pairs if pair != start)
        self.assert_for(False, self.with_pairs(without))
        for other in [("start", Q, (P,)), ("start", P, (Q,)), ("start", P, ()), ("start", P, (P, T)), ("s", P, (P,))]:
            self.assert_for(False, self.with_pairs(without + (other,)))

    def test_items(self):
        items = self.items
        wrong = ("s", P, P, ("step", 0, 0))
        for other, expected in [
            ((), False), (items[:-1], None), (items[1:], None), (items + (wrong,), False), (items + (None,), False),
            (items + (("", Q, Q, ("stay",)),), True), (items + (("", P, P, ("stay",)),), True), (list(items), False),
            (None, False),
            (items + (("r", Q, T, ("step", 2, 0)),), True), (items + (("r", Q, T, ("step", 2, 1)),), False),
            (items + (("r", P, T, ("step", 2, 0)),), False), (items[::-1], None), ({}, False),
        ]:
            verdict = ("contained", (self.table, other, self.pairs))
            if expected is None:
                expected = bool(is_contained_verdict(self.one, self.other, verdict))
            self.assert_for(expected, verdict)

    def test_items_removed_one_by_one(self):
        kept = 0
        _, made, _ = least_table(self.second.system(0))
        self.assertEqual(made, self.items)
        for cut in range(len(self.items)):
            verdict = ("contained", (self.table, self.items[:cut], self.pairs))
            expected = bool(is_contained_verdict(self.one, self.other, verdict))
            self.assert_for(expected, verdict)
            kept += expected
        self.assertLess(kept, len(self.items))

    def test_items_of_another_kind_of_state_are_asked_too(self):
        # The table must be one of the first system, the items those of the second.
        swapped = contained(self.other, self.other)[1]
        self.assert_for(False, ("contained", (swapped[0], self.items, self.pairs)))
        own = contained(self.one, self.one)[1]
        self.assert_for(False, ("contained", (self.table, own[1], self.pairs)))

    def test_tables(self):
        for key, worth in self.table.items():
            for near in [
                {**self.table, key: worth + 1}, {**self.table, key: worth - 1}, {**self.table, key: bool(worth)},
                {other: self.table[other] for other in self.table if other != key},
            ]:
                verdict = ("contained", (near, self.items, self.pairs))
                self.assert_for(bool(is_contained_verdict(self.one, self.other, verdict)), verdict)
        for near in [{}, None, (), list(self.table.items())]:
            self.assert_for(False, ("contained", (near, self.items, self.pairs)))

    def test_the_empty_word(self):
        both, word = machine_with(2, (0, 1, "", 1), (0, 1, "s", 1)), machine_with(2, (0, 1, "s", 1))
        one, other = ("moves", both, 0, 1), ("moves", both, 0, 1)
        _, (table, items, pairs) = contained(one, other)
        self.assert_contained_check(one, other, True, ("contained", (table, items, pairs)))
        cut = tuple(item for item in items if item[:3] != ("", P, Q))
        self.assertEqual(len(cut), len(items) - 1)
        self.assert_contained_check(one, other, False, ("contained", (table, cut, pairs)))
        lesser = ("moves", word, 0, 1)
        _, (table, items, pairs) = contained(lesser, lesser)
        self.assert_contained_check(lesser, lesser, True, ("contained", (table, items, pairs)))
        raised = {**table, ("", P, Q): 5, ("s", P, P): 7, ("s", Q, Q): 9, ("", Q, P): 9, ("s", Q, P): 9}
        verdict = ("contained", (raised, items, pairs))
        self.assert_contained_check(lesser, lesser, bool(is_contained_verdict(lesser, lesser, verdict)), verdict)

    def test_an_item_for_the_empty_word_from_start_to_place(self):
        one, other = ("moves", Machine(2), 0, 0), ("moves", machine_with(2, (0, 1, "", 1)), 0, 1)
        verdict = contained(one, other)
        self.assertEqual(verdict[0], "contained")
        table, items, pairs = verdict[1]
        step = ("", P, Q, ("step", 0, 0))
        self.assert_contained_check(one, other, True, ("contained", (table, (step,), pairs)))
        for items in [(), (("", P, P, ("stay",)),), (("", Q, Q, ("stay",)),), (("", Q, P, ("step", 0, 0)),)]:
            self.assert_contained_check(one, other, False, ("contained", (table, items, pairs)))

    def test_another_kind(self):
        for kind in ["apart", "parted", "Contained", "", None, 0, ["contained"]]:
            self.assert_for(False, (kind, self.verdict[1]))
        for evidence in [None, (), self.verdict[1][:2], self.verdict[1] + ((),), list(self.verdict[1]), {}]:
            self.assert_for(False, ("contained", evidence))
        for verdict in [self.verdict[:1], self.verdict + ((),), list(self.verdict), (self.verdict,),
            self.verdict[::-1]]:
            self.assert_for(False, verdict)

    def test_exchanged_sets(self):
        self.assert_contained_check(self.other, self.one, False, self.verdict)
        self.assert_contained_check(self.other, self.one, True, contained(self.other, self.one))
        self.assert_contained_check(self.one, self.other, False, contained(self.other, self.one))

    def test_after_edits_and_back(self):
        self.first.add_edge(0, 0, "s", 1)
        self.assert_for(False, self.verdict)
        self.first.remove_edge(2)
        self.assert_for(True, self.verdict)
        self.second.add_edge(0, 0, "s", 1)
        self.assert_for(True, self.verdict)
        self.second.reroute_edge(0, 1, 1)
        self.assert_for(False, self.verdict)


class Parted(CheckCase):
    def setUp(self):
        # The words s and "srs" on, beside the word s alone.
        self.first = machine_with(2, (0, 1, "s", 1), (1, 1, "rs", 2))
        self.second = machine_with(2, (0, 1, "s", 3))
        self.one = ("moves", self.first, 0, 1)
        self.other = ("moves", self.second, 0, 1)
        self.verdict = contained(self.one, self.other)

    def assert_for(self, expected, verdict):
        self.assert_contained_check(self.one, self.other, expected, verdict)

    def test_own_verdict(self):
        self.assertEqual(self.verdict[:2], ("parted", "srs"))
        self.assert_for(True, self.verdict)

    def test_words_that_are_longer(self):
        table = self.verdict[3]
        for times in range(6):
            word = "s" + "rs" * times
            derivation = ask_move(self.first, 0, 1, word)[2]
            self.assert_for(times > 0, ("parted", word, derivation, table))

    def test_words_that_are_not_reduced(self):
        steps = (("s", P, Q, ("step", 0, 0)), ("r", Q, (1, 1), ("step", 1, 0)), ("s", (1, 1), Q, ("step", 1, 1)))
        self.first.add_edge(1, 1, "s", 1)
        more = steps + (("s", Q, Q, ("step", 2, 0)),)
        table = self.verdict[3]
        self.assert_for(True, ("parted", "srs", (more, (0, 1, 2)), table))
        self.assert_for(False, ("parted", "ss", (more, (0, 3)), table))
        self.assert_for(False, ("parted", "srss", (more, (0, 1, 2, 3)), table))

    def test_words_of_no_set(self):
        _, word, derivation, table = self.verdict
        for other in ["", "s", "sr", "rs", "sRs", "srsrs", "x", "ss", None, 0, ["srs"], ("srs",), "srs "]:
            self.assert_for(False, ("parted", other, derivation, table))

    def test_words_of_both(self):
        both = ask_move(self.first, 0, 1, "s")[2]
        self.assert_for(False, ("parted", "s", both, self.verdict[3]))
        self.assert_for(False, ("parted", "s", both, {}))

    def test_derivations_and_tables(self):
        _, word, derivation, table = self.verdict
        dear = (derivation[0] + (("", Q, Q, ("stay",)),), derivation[1])
        for near, expected in [
            (dear, True), (None, False), ((), False), (derivation[::-1], False), (list(derivation), False),
            ((derivation[0], derivation[1][::-1]), False), ((derivation[0] + (None,), derivation[1]), False),
        ]:
            self.assert_for(expected, ("parted", word, near, table))
        for near in [{}, None, (), list(table.items()), {**table, ("", P, P): 1}, {**table, ("r", Q, P): 0}]:
            self.assert_for(False, ("parted", word, derivation, near))
        self.assert_for(True, ("parted", word, derivation, {key: 0 for key in table}))

    def test_value_words(self):
        first, second = machine_with(1, (0, 0, "rs", 1)), Machine(1)
        one, other = ("values", first, 0, (0, 1), 0), ("values", second, 0, (0, 1), 0)
        verdict = contained(one, other)
        self.assertEqual(verdict[:2], ("parted", "srs"))
        self.assert_contained_check(one, other, True, verdict)
        # The words "rs" and "srs" lead to the place in the first system, but "sRs" on are no value words.
        start = (-2, 0)
        items = (
            ("s", start, (-3, 1), ("step", -3, 0)), ("R", (-3, 1), start, ("step", -3, 1)),
            ("s", start, P, ("step", -4, 0)),
            ("r", P, (0, 1), ("step", 0, 0)), ("s", (0, 1), P, ("step", 0, 1)),
        )
        table = verdict[3]
        self.assert_contained_check(one, other, False, ("parted", "sRsrs", (items, (0, 1, 2, 3, 4)), table))
        self.assert_contained_check(one, other, True, ("parted", "srs", (items, (2, 3, 4)), table))

    def test_verdicts_of_the_other_kind(self):
        shown = contained(self.other, self.one)
        self.assertEqual(shown[0], "contained")
        self.assert_for(False, shown)
        self.assert_contained_check(self.other, self.one, False, self.verdict)
        own = contained(self.one, self.one)
        self.assert_for(False, own)
        self.assert_contained_check(self.one, self.one, False, self.verdict)
        for verdict in [self.verdict[:3], self.verdict + ((),), list(self.verdict), ("met",) + self.verdict[1:]]:
            self.assert_for(False, verdict)


class Met(CheckCase):
    def setUp(self):
        self.first = machine_with(2, (0, 1, "s", 1), (1, 1, "rs", 2))
        self.second = machine_with(2, (0, 1, "srs", 3), (1, 1, "rs", 0))
        self.one = ("moves", self.first, 0, 1)
        self.other = ("moves", self.second, 0, 1)
        self.verdict = met(self.one, self.other)

    def assert_for(self, expected, verdict):
        self.assert_met_check(self.one, self.other, expected, verdict)

    def test_own_verdict(self):
        self.assertEqual(self.verdict[:2], ("met", "srs"))
        self.assert_for(True, self.verdict)

    def test_words_that_are_longer_and_others(self):
        for times in range(1, 5):
            word = "s" + "rs" * times
            ways = [ask_move(machine, 0, 1, word)[2] for machine in (self.first, self.second)]
            self.assert_for(True, ("met", word, *ways))
            self.assert_for(False, ("met", word, *ways[::-1]))
            self.assert_for(False, ("met", word + "rs", *ways))
        _, word, one, other = self.verdict
        for near in ["s", "", "sr", "x", "ss", None, 0, ["srs"], ("srs",)]:
            self.assert_for(False, ("met", near, one, other))
        only = ask_move(self.first, 0, 1, "s")[2]
        self.assert_for(False, ("met", "s", only, only))

    def test_words_that_are_not_reduced(self):
        self.first.add_edge(1, 1, "s", 1)
        self.second.add_edge(1, 1, "s", 1)
        ways = []
        for machine in (self.first, self.second):
            items, ends = ask_move(machine, 0, 1, "srs")[2]
            ways.append((items + (("s", Q, Q, ("step", 2, 0)),), ends + (len(items),)))
        self.assert_for(False, ("met", "srss", *ways))

    def test_derivations(self):
        _, word, one, other = self.verdict
        for ways, expected in [
            ((one, one), False), ((other, other), False), ((other, one), False), ((one, None), False),
            ((None, other), False),
            ((one, ()), False), ((list(one), other), False), ((one, (other[0], other[1][::-1])), False),
            (((one[0] + (None,), one[1]), other), False),
            ((one, (other[0] + (("", Q, Q, ("stay",)),), other[1])), True),
        ]:
            self.assert_for(expected, ("met", word, *ways))

    def test_other_kinds_and_sets(self):
        for verdict in [
            self.verdict[:3], self.verdict + ((),), list(self.verdict), ("parted",) + self.verdict[1:],
            ("Met",) + self.verdict[1:],
            ("apart",) + self.verdict[1:], self.verdict[::-1],
        ]:
            self.assert_for(False, verdict)
        self.assert_met_check(self.other, self.one, False, self.verdict)
        self.assert_met_check(self.one, ("moves", Machine(2), 0, 1), False, self.verdict)
        self.assert_met_check(self.one, ("moves", self.second, 0, 0), False, self.verdict)

    def test_value_words(self):
        machine = machine_with(1, (0, 0, "rs", 1))
        part = ("values", machine, 0, (0, 1), 0)
        verdict = met(part, part)
        self.assertEqual(verdict[:2], ("met", "s"))
        self.assert_met_check(part, part, True, verdict)
        start = (-2, 0)
        items = (
            ("s", start, (-3, 1), ("step", -3, 0)), ("R", (-3, 1), start, ("step", -3, 1)),
            ("s", start, P, ("step", -4, 0)),
        )
        self.assert_met_check(part, part, False, ("met", "sRs", (items, (0, 1, 2)), (items, (0, 1, 2))))
        self.assert_met_check(part, part, True, ("met", "s", (items, (2,)), (items, (2,))))


class Apart(CheckCase):
    def setUp(self):
        # Odd and even powers of "rs".
        self.first = machine_with(2, (0, 1, "rs", 1), (1, 0, "rs", 1))
        self.second = machine_with(3, (0, 1, "rs", 0), (1, 0, "rs", 0), (2, 0, "s", 1))
        self.one = ("moves", self.first, 0, 1)
        self.other = ("moves", self.second, 0, 0)
        self.verdict = met(self.one, self.other)
        self.table, self.other_table, self.pairs = self.verdict[1]

    def assert_for(self, expected, verdict):
        self.assert_met_check(self.one, self.other, expected, verdict)

    def with_pairs(self, pairs):
        return ("apart", (self.table, self.other_table, pairs))

    def test_own_verdict(self):
        self.assertEqual(self.verdict[0], "apart")
        self.assert_for(True, self.verdict)

    def test_pairs_removed_doubled_and_in_another_order(self):
        for at in range(len(self.pairs)):
            self.assert_for(False, self.with_pairs(self.pairs[:at] + self.pairs[at + 1 :]))
        self.assert_for(True, self.with_pairs(self.pairs[::-1]))
        self.assert_for(True, self.with_pairs(self.pairs + self.pairs))
        self.assert_for(False, self.with_pairs(()))

    def test_every_more_pair(self):
        taken = 0
        for mark in ("start", "first", "s", "r", "R", "", None):
            for state in self.first.system(0).states + ((-1, 2), (-1, True), (-1,), None):
                for another in self.second.system(0).states + ((-1, 3), (0, True), "T"):
                    verdict = self.with_pairs(self.pairs + ((mark, state, another),))
                    expected = bool(is_met_verdict(self.one, self.other, verdict))
                    self.assert_for(expected, verdict)
                    taken += expected
        self.assertGreater(taken, 20)
        for pair in [None, (), ("s", P), ("s", P, P, P), ["s", P, P], ("s", [-1, 0], P), "sPP"]:
            self.assert_for(False, self.with_pairs(self.pairs + (pair,)))

    def test_both_places_at_the_start(self):
        one, other = ("moves", Machine(1), 0, 0), ("moves", machine_with(2, (0, 1, "s", 1)), 0, 1)
        verdict = met(one, other)
        table, other_table, pairs = verdict[1]
        self.assertEqual(verdict[0], "apart")
        self.assert_met_check(one, other, True, ("apart", (table, other_table, pairs + (("start", P, Q),))))
        self.assert_met_check(one, other, False, ("apart", (table, other_table, pairs + (("s", P, Q),))))
        self.assert_met_check(one, other, True, ("apart", (table, other_table, pairs + (("s", P, P),))))

    def test_the_triple_of_the_starts(self):
        start = ("start", P, P)
        self.assertIn(start, self.pairs)
        without = tuple(pair for pair in self.pairs if pair != start)
        for other in [("start", Q, P), ("start", P, Q), ("s", P, P), ("start", P, (P,))]:
            self.assert_for(False, self.with_pairs(without + (other,)))

    def test_states_outside_of_the_base(self):
        self.assertNotIn(("", T, T), self.other_table)
        for mark, state in itertools.product(["start", "s", "r", "R"], [P, Q]):
            self.assert_for(True, self.with_pairs(self.pairs + ((mark, state, T),)))

    def test_the_empty_word(self):
        one, other = ("moves", Machine(2), 0, 0), ("moves", machine_with(2, (0, 1, "", 1)), 0, 1)
        self.assertEqual(met(one, other)[:2], ("met", ""))
        tables = [least_table(part[1].system(0))[0] for part in (one, other)]
        self.assert_met_check(one, other, False, ("apart", (*tables, (("start", P, P),))))
        apart = ("moves", Machine(2), 0, 1)
        self.assert_met_check(apart, other, True, ("apart", (*tables, (("start", P, P),))))

    def test_tables(self):
        for which, table in enumerate((self.table, self.other_table)):
            for key, worth in table.items():
                for near in [
                    {**table, key: worth + 1}, {**table, key: worth - 1}, {**table, key: bool(worth)},
                    {other: table[other] for other in table if other != key},
                ]:
                    tables = (near, self.other_table) if which == 0 else (self.table, near)
                    verdict = ("apart", (*tables, self.pairs))
                    self.assert_for(bool(is_met_verdict(self.one, self.other, verdict)), verdict)
            for near in [{}, None, (), list(table.items())]:
                tables = (near, self.other_table) if which == 0 else (self.table, near)
                self.assert_for(False, ("apart", (*tables, self.pairs)))
        self.assert_for(False, ("apart", (self.other_table, self.table, self.pairs)))

    def test_other_kinds_and_sets(self):
        for verdict in [
            ("contained", self.verdict[1]), ("Apart", self.verdict[1]), self.verdict[:1], self.verdict + ((),),
            list(self.verdict),
            ("apart", self.verdict[1][:2]), ("apart", self.verdict[1] + ((),)), ("apart", list(self.verdict[1])),
            ("apart", None),
            ("apart", (self.table, self.other_table, list(self.pairs))),
            ("apart", (self.table, self.other_table, None)),
        ]:
            self.assert_for(False, verdict)
        self.assert_met_check(self.other, self.one, False, self.verdict)
        self.assert_met_check(self.other, self.one, True, met(self.other, self.one))
        self.assert_met_check(self.one, ("moves", self.second, 0, 1), False, self.verdict)
        meeting = met(self.one, ("moves", self.second, 0, 1))
        self.assertEqual(meeting[0], "met")
        self.assert_for(False, meeting)


class AllKinds(CheckCase):
    def pairs_of_sets(self, seed, count):
        machines = some_machines(count, places=3, edges=5, longest=3, seed=seed)
        values = [(1, 0), (0, 1), (-1, 1), (1, 2)]
        for at, (machine, another) in enumerate(zip(machines, machines[1:] + machines[:1])):
            for one, other in [
                (("moves", machine, 0, at % len(machine)), ("moves", another, 0, at % len(another))),
                (("values", machine, 0, values[at % 4], 0), ("values", another, 0, values[at % 3], at % len(another))),
                (("moves", machine, 0, 0), ("moves", machine, 0, 0)),
                (("values", machine, 0, values[at % 4], 0), ("values", machine, 0, values[at % 4], 0)),
            ]:
                if all(len(ground(part)[1].states) <= 14 for part in (one, other)):
                    yield at, one, other

    def test_arbitrary_values(self):
        machine = two_places()
        parts = [("moves", machine, 0, 1), ("moves", machine, 0, 0), ("moves", Machine(2), 0, 1)]
        for one, other in itertools.product(parts, repeat=2):
            for check in (check_contained, check_met):
                self.assert_only_false(lambda near: check(one, other, near), [one[1], other[1]])

    def test_large_and_deep_values(self):
        machine = two_places()
        part = ("moves", machine, 0, 1)
        deep = ()
        for _ in range(12):
            deep = (deep, [deep], {"a": deep}) if len(repr(deep)) < 3000 else (deep,)
        _, (table, items, pairs) = contained(part, part)
        rows = (("", P, P, ("stay",)),) * 4000
        for check, plain, values in [
            (check_contained, is_contained_verdict, [
                ("contained", (table, rows, pairs)), ("contained", (table, items, (("s", P, (P,) * 9000),))),
                ("contained", deep),
                ("contained", (table, items, (("s", Q, (P, Q)),) * 3000)),
                ("parted", "sr" * 9000, (rows, (0,) * 18000), table),
            ]),
            (check_met, is_met_verdict, [
                ("apart", (table, table, (("s", P, P),) * 5000)), ("apart", deep), ("met", "rs", deep, deep),
                ("met", deep, (), ()),
            ]),
        ]:
            for value in values:
                self.assertIs(bool(plain(part, part, value)), False)
                self.assert_checked(False, lambda near: check(part, part, near), value, [machine])

    def closure(self, one, other):
        """All triples that reading leads to, whatever they say of the places."""
        (about, first, _), (_, second, _) = ground(one), ground(other)
        table, (_, items, _) = least_table(first)[0], least_table(second)
        found = [("start", first.start, (second.start,))]
        for mark, state, others in found:
            for letter in letters_after(mark, about):
                reached = tuple(sorted({q for x, p, q, _ in items if x == letter and p in others}))
                for x, p, q in table:
                    triple = (next_mark(mark, letter, about), q, reached)
                    if (x, p) == (letter, state) and triple not in found:
                        found.append(triple)
        return table, items, tuple(found)

    def test_all_that_reading_leads_to(self):
        # Closed under reading, and accepted only if no word parts.
        asked = {"contained": 0, "parted": 0}
        for at, one, other in self.pairs_of_sets(75, 40):
            answer = contained(one, other)
            self.assert_contained_check(one, other, answer[0] == "contained", ("contained", self.closure(one, other)))
            asked[answer[0]] += 1
        self.assertGreater(min(asked.values()), 10)

    def test_a_word_that_parts_behind_the_empty_word(self):
        first, second = machine_with(2, (0, 1, "s", 1)), machine_with(2, (0, 0, "s", 1))
        one, other = ("moves", first, 0, 1), ("moves", second, 0, 1)
        table, items, pairs = self.closure(one, other)
        self.assertIn(("s", Q, (P,)), pairs)
        self.assert_contained_check(one, other, False, ("contained", (table, items, pairs)))
        self.assert_contained_check(one, ("moves", second, 0, 0), True, ("contained", (table, items, pairs)))

    def test_contained_values_near_verdicts(self):
        asked = {"contained": 0, "parted": 0}
        for at, one, other in self.pairs_of_sets(71, 30):
            verdict = contained(one, other)
            asked[verdict[0]] += 1
            self.assert_variations(
                lambda near: check_contained(one, other, near), lambda near: is_contained_verdict(one, other, near),
                verdict,
                [one[1], other[1]], lambda near: near[0], 25, seed=at,
            )
        self.assertGreater(min(asked.values()), 10)

    def test_met_values_near_verdicts(self):
        asked = {"met": 0, "apart": 0}
        for at, one, other in self.pairs_of_sets(73, 30):
            verdict = met(one, other)
            asked[verdict[0]] += 1
            self.assert_variations(
                lambda near: check_met(one, other, near), lambda near: is_met_verdict(one, other, near), verdict,
                [one[1], other[1]], lambda near: near[0], 25, seed=at,
            )
        self.assertGreater(min(asked.values()), 10)


if __name__ == "__main__":
    unittest.main()
