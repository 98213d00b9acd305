"""Points 14, 16 and 17: whether a set is contained in another one, and whether two sets meet."""

import itertools
import unittest

from fracwalk.comparisons import check_contained, check_met, contained, met
from fracwalk.errors import LimitExceeded, NotAValue, UnknownPlace
from fracwalk.machines import Machine
from fracwalk.sets import list_set
from fracwalk.words import value_of
from tests.checkers import (
    cost_of_derivation,
    ground,
    is_closed_table,
    is_contained_verdict,
    is_met_verdict,
    letters_after,
    next_mark,
    reading,
)
from tests.helpers import within
from tests.machine_helpers import least_entries, machine_with, some_machines, snapshot, two_places
from tests.question_helpers import QuestionCase

INFINITY = (1, 0)
TEN = value_of("srsrsrsrsr")
ELEVEN = value_of("srsrsrsrsrs")


def nearest(one, other, wanted):
    """The length of a shortest word for which (in one, in other) is as wanted, or None, by reading in both at once."""
    (about, first, place), (_, second, other_place) = ground(one), ground(other)
    entries, others = least_entries(first), least_entries(second)
    if ((("", first.start, place) in entries), (("", second.start, other_place) in others)) == wanted:
        return 0
    level = {("start", frozenset([first.start]), frozenset([second.start]))}
    met_before = set(level)
    length = 0
    while level:
        length += 1
        further = set()
        for mark, states, other_states in level:
            for letter in letters_after(mark, about):
                ends = frozenset(q for x, p, q in entries if x == letter and p in states)
                other_ends = frozenset(q for x, p, q in others if x == letter and p in other_states)
                if ((place in ends), (other_place in other_ends)) == wanted:
                    return length
                if ends:
                    further.add((next_mark(mark, letter, about), ends, other_ends))
        level = further - met_before
        met_before |= level
    return None


class ComparisonCase(QuestionCase):
    def verdict_of(self, call, check, plain, one, other):
        before = [snapshot(one[1]), snapshot(other[1])]
        verdict = call(one, other)
        self.assertEqual([snapshot(one[1]), snapshot(other[1])], before)
        self.assertIs(type(verdict), tuple)
        self.assertTrue(plain(one, other, verdict))
        self.assertIs(check(one, other, verdict), True)
        return verdict

    def contained(self, one, other):
        verdict = self.verdict_of(contained, check_contained, is_contained_verdict, one, other)
        self.assertIn(verdict[0], ("contained", "parted"))
        if verdict[0] == "contained":
            table, items, pairs = verdict[1]
            self.assertEqual([type(table), type(items), type(pairs)], [dict, tuple, tuple])
            self.assertLessEqual(len(items), 4 * len(ground(other)[1].states) ** 2)
        else:
            self.assertLessEqual(len(verdict[2][0]), 4 * len(ground(one)[1].states) ** 2)
        return verdict

    def met(self, one, other):
        verdict = self.verdict_of(met, check_met, is_met_verdict, one, other)
        self.assertIn(verdict[0], ("met", "apart"))
        if verdict[0] == "met":
            self.assertLessEqual(len(verdict[2][0]), 4 * len(ground(one)[1].states) ** 2)
            self.assertLessEqual(len(verdict[3][0]), 4 * len(ground(other)[1].states) ** 2)
        return verdict

    def assert_contained(self, one, other):
        self.assertEqual(self.contained(one, other)[0], "contained")

    def assert_parted(self, length, one, other):
        verdict = self.contained(one, other)
        self.assertEqual((verdict[0], len(verdict[1])), ("parted", length))
        return verdict[1]

    def assert_met(self, length, one, other):
        verdict = self.met(one, other)
        self.assertEqual((verdict[0], len(verdict[1])), ("met", length))
        return verdict[1]

    def assert_apart(self, one, other):
        self.assertEqual(self.met(one, other)[0], "apart")


class Answers(ComparisonCase):
    def test_example(self):
        machine = machine_with(1, (0, 0, "rs", 1))
        one, other = ("moves", machine, 0, 0), ("moves", Machine(1), 0, 0)
        self.assertEqual(contained(one, other)[:2], ("parted", "rs"))
        self.assertEqual(self.assert_parted(2, one, other), "rs")
        self.assert_contained(other, one)
        self.assertEqual(self.assert_met(0, one, other), "")

    def test_a_set_and_itself(self):
        machine = machine_with(2, (0, 1, "s", 1), (1, 1, "rs", 2), (1, 0, "r", 0))
        for start, place in itertools.product(range(2), repeat=2):
            part = ("moves", machine, start, place)
            self.assert_contained(part, part)
            self.met(part, part)
            for value in [INFINITY, (0, 1), (1, 2)]:
                part = ("values", machine, start, value, place)
                self.assert_contained(part, part)
        self.assert_met(0, ("moves", machine, 0, 0), ("moves", machine, 0, 0))
        self.assert_met(1, ("moves", machine, 0, 1), ("moves", machine, 0, 1))

    def test_more_edges(self):
        machine = machine_with(2, (0, 1, "s", 1), (1, 1, "rs", 2))
        more = machine.twin()
        more.add_edge(1, 1, "Rs", 0)
        for part, rest in [(("moves",), ()), (("values",), ((0, 1),)), (("values",), ((1, 2),))]:
            one, other = (*part, machine, 0, *rest, 1), (*part, more, 0, *rest, 1)
            self.assert_contained(one, other)
            self.assertEqual(self.contained(other, one)[0], "parted")
        self.assertEqual(self.assert_parted(3, ("moves", more, 0, 1), ("moves", machine, 0, 1)), "sRs")

    def test_empty_sets(self):
        empty, full = ("moves", Machine(2), 0, 1), ("moves", machine_with(1, (0, 0, "s", 1), (0, 0, "r", 1)), 0, 0)
        self.assert_contained(empty, empty)
        self.assert_contained(empty, full)
        self.assert_parted(0, full, empty)
        self.assert_apart(empty, full)
        self.assert_apart(full, empty)
        self.assert_apart(empty, empty)
        empty, full = ("values", Machine(2), 0, INFINITY, 1), ("values", full[1], 0, INFINITY, 0)
        self.assert_contained(empty, full)
        self.assert_parted(0, full, empty)
        self.assert_apart(empty, full)

    def test_the_empty_word(self):
        both = machine_with(2, (0, 1, "", 1), (0, 1, "s", 1))
        word = machine_with(2, (0, 1, "s", 1))
        nothing = machine_with(2, (0, 1, "", 1))
        sets = [("moves", machine, 0, 1) for machine in (both, word, nothing)]
        for one, other, within_it, shortest in [
            (0, 0, None, 0), (0, 1, 0, 1), (0, 2, 1, 0), (1, 0, None, 1), (1, 1, None, 1), (1, 2, 1, None),
            (2, 0, None, 0),
            (2, 1, 0, None), (2, 2, None, 0),
        ]:
            one, other = sets[one], sets[other]
            if within_it is None:
                self.assert_contained(one, other)
            else:
                self.assert_parted(within_it, one, other)
            if shortest is None:
                self.assert_apart(one, other)
            else:
                self.assert_met(shortest, one, other)

    def test_endless_sets(self):
        # Powers of rs: all, those of an even number and those of a number that three divides.
        machines = [machine_with(1, (0, 0, "rs" * times, 1)) for times in (1, 2, 3)]
        ones = [("moves", machine, 0, 0) for machine in machines]
        self.assert_contained(ones[1], ones[0])
        self.assert_contained(ones[2], ones[0])
        self.assert_parted(2, ones[0], ones[1])
        self.assert_parted(2, ones[0], ones[2])
        self.assert_parted(4, ones[1], ones[2])
        self.assert_parted(6, ones[2], ones[1])
        # Without the empty word, the shortest common one is the sixth power.
        once = [machine_with(2, (0, 1, "rs" * times, 1), (1, 1, "rs" * times, 1)) for times in (2, 3)]
        self.assertEqual(self.assert_met(12, ("moves", once[0], 0, 1), ("moves", once[1], 0, 1)), "rs" * 6)
        odd = machine_with(2, (0, 1, "rs", 1), (1, 1, "rsrs", 1))
        self.assert_apart(("moves", odd, 0, 1), ones[1])
        self.assert_contained(("moves", odd, 0, 1), ones[0])
        self.assert_apart(("values", odd, 0, (0, 1), 1), ("values", machines[1], 0, (0, 1), 0))
        self.assert_met(3, ("values", odd, 0, (0, 1), 1), ("values", machines[1], 0, (-1, 1), 0))

    def test_values(self):
        up, down = machine_with(1, (0, 0, "rs", 1)), machine_with(1, (0, 0, "sR", 1))
        self.assertEqual(self.assert_met(1, ("values", up, 0, (0, 1), 0), ("values", down, 0, (0, 1), 0)), "s")
        self.assert_apart(("values", up, 0, (1, 1), 0), ("values", down, 0, (0, 1), 0))
        self.assert_parted(3, ("values", up, 0, (0, 1), 0), ("values", down, 0, (0, 1), 0))
        self.assert_contained(("values", up, 0, (3, 1), 0), ("values", up, 0, (-2, 1), 0))
        self.assert_parted(1, ("values", up, 0, (-2, 1), 0), ("values", up, 0, (1, 1), 0))
        self.assert_contained(("values", up, 0, INFINITY, 0), ("values", Machine(1), 0, INFINITY, 0))
        self.assert_apart(("values", up, 0, INFINITY, 0), ("values", up, 0, (0, 1), 0))

    def test_one_machine_with_several_starts(self):
        machine = two_places()
        parts = [("moves", machine, start, place) for start in range(2) for place in range(2)]
        found = [[self.contained(one, other)[0] == "contained" for other in parts] for one in parts]
        words = [{""}, {"rs"}, {"sR"}, {""}]
        self.assertEqual(found, [[one <= other for other in words] for one in words])

    def assert_as_searched(self, one, other):
        verdict = self.contained(one, other)
        length = nearest(one, other, (True, False))
        self.assertEqual(verdict[0], "contained" if length is None else "parted")
        if length is not None:
            self.assertEqual(len(verdict[1]), length)
        common = self.met(one, other)
        length = nearest(one, other, (True, True))
        self.assertEqual(common[0], "apart" if length is None else "met")
        if length is not None:
            self.assertEqual(len(common[1]), length)
        return verdict[0], common[0]

    def assert_as_listed(self, one, other):
        """The same as from the lists of both sets, if they are finite."""
        lists = []
        for part in (one, other):
            try:
                lists.append(list_set(part, limit=50))
            except LimitExceeded:
                return False
        if any(verdict[0] != "finite" for verdict in lists):
            return False
        words, others = [verdict[1] for verdict in lists]
        only, common = [word for word in words if word not in others], [word for word in words if word in others]
        found = contained(one, other), met(one, other)
        self.assertEqual([verdict[0] for verdict in found], ["parted" if only else "contained",
                "met" if common else "apart"])
        if only:
            self.assertIn(found[0][1], [word for word in only if len(word) == len(only[0])])
        if common:
            self.assertIn(found[1][1], [word for word in common if len(word) == len(common[0])])
        return True

    def test_some_machines(self):
        seen = {}
        listed = 0
        machines = some_machines(100, places=3, edges=5, longest=3, seed=61)
        values = [INFINITY, (0, 1), (-1, 1), (1, 2), (1, 1)]
        for at, (machine, another) in enumerate(zip(machines, machines[1:] + machines[:1])):
            place, end = at % len(machine), at % len(another)
            for one, other in [
                (("moves", machine, 0, place), ("moves", another, 0, end)),
                (("moves", machine, 0, 0), ("moves", machine, 0, place)),
                (("values", machine, 0, values[at % 5], place), ("values", another, 0, values[at % 3], end)),
            ]:
                if len(ground(one)[1].states) <= 14 and len(ground(other)[1].states) <= 14:
                    answers = self.assert_as_searched(one, other)
                    seen[answers] = seen.get(answers, 0) + 1
                    listed += self.assert_as_listed(one, other)
        self.assertEqual(len(seen), 4)
        self.assertGreater(min(seen.values()), 10)
        self.assertGreater(listed, 60)

    def test_edited_machines(self):
        machine, other = machine_with(1, (0, 0, "rs", 1)), machine_with(1, (0, 0, "rs", 5))
        ones = ("moves", machine, 0, 0), ("moves", other, 0, 0)
        held = self.contained(*ones)
        self.assertEqual(held[0], "contained")
        machine.add_edge(0, 0, "s", 1)
        self.assertIs(check_contained(*ones, held), False)
        self.assert_parted(1, *ones)
        machine.remove_edge(1)
        self.assertIs(check_contained(*ones, held), True)
        other.remove_edge(0)
        self.assert_parted(2, *ones)

    def test_answers_are_new(self):
        machine = machine_with(1, (0, 0, "rs", 1))
        one, other = ("moves", machine, 0, 0), ("moves", Machine(1), 0, 0)
        contained(other, one)[1][0].clear()
        contained(one, other)[3].clear()
        self.assert_contained(other, one)
        self.assert_parted(2, one, other)
        empty = ("moves", Machine(2), 0, 1)
        apart = met(one, empty)
        apart[1][0].clear()
        apart[1][1].clear()
        self.assert_apart(one, empty)
        same = contained(one, one)
        self.assertTrue(is_closed_table(same[1][0], machine.system(0)))


class Limits(ComparisonCase):
    def states(self, count, kind="moves"):
        """A set over a system of so many states."""
        machine = Machine(12)
        fewer = count - 12 - (3 if kind == "values" else 0)
        if fewer > 0:
            machine.add_edge(0, 1, "srsrsrsr"[: fewer + 1], 1)
        part = ("moves", machine, 0, 1) if kind == "moves" else ("values", machine, 0, INFINITY, 1)
        return part

    def test_14_and_15_states(self):
        small = ("moves", Machine(1), 0, 0)
        for count in (12, 13, 14):
            part = self.states(count)
            self.assertEqual(len(ground(part)[1].states), count)
            self.contained(part, part)
            self.met(part, part)
            self.contained(small, part)
            self.met(part, small)
        for count in (15, 16, 19):
            part = self.states(count)
            self.assertEqual(len(ground(part)[1].states), count)
            for one, other in [(part, part), (part, small), (small, part)]:
                for call in (contained, met):
                    self.assert_unchanged(part[1], LimitExceeded, "limit", 14, call, one, other)

    def test_the_prelude_is_counted(self):
        # The new start and an inner state for each of its loops, and those of the value word.
        for places, value, fits in [
            (11, INFINITY, True), (12, INFINITY, False), (11, (0, 1), True), (11, (-1, 1), False), (10, (-1, 1), True),
            (3, (-2, 1), True), (2, TEN, True), (3, TEN, False),
        ]:
            part = ("values", Machine(places), 0, value, 0)
            self.assertEqual(len(ground(part)[1].states) <= 14, fits)
            small = ("values", Machine(1), 0, INFINITY, 0)
            for one, other in [(part, small), (small, part), (part, part)]:
                if fits:
                    self.contained(one, other)
                    self.met(one, other)
                else:
                    for call in (contained, met):
                        self.assert_unchanged(part[1], LimitExceeded, "limit", 14, call, one, other)

    def test_14_states_without_delay(self):
        # Words in which the letter r or R some way before the end was R: many tuples of states.
        machine = machine_with(12, (0, 1, "s", 0), (1, 0, "r", 0), (1, 0, "R", 0), (1, 2, "R", 0))
        for place in range(2, 10, 2):
            for edge in [(place, place + 1, "s", 0), (place + 1, place + 2, "r", 0), (place + 1, place + 2, "R", 0)]:
                machine.add_edge(*edge)
        machine.add_edge(10, 11, "s", 1)
        machine.add_edge(11, 11, "srs", 1)
        part = ("moves", machine, 0, 10)
        self.assertEqual(len(ground(part)[1].states), 14)
        for one, other in [(part, part), (part, ("moves", machine, 0, 8)), (("moves", machine, 0, 0), part)]:
            with within(5):
                verdict = contained(one, other)
                self.assertIs(check_contained(one, other, verdict), True)
            self.assertTrue(is_contained_verdict(one, other, verdict))
            with within(5):
                verdict = met(one, other)
                self.assertIs(check_met(one, other, verdict), True)
            self.assertTrue(is_met_verdict(one, other, verdict))
        self.assertGreater(len(contained(part, part)[1][2]), 100)

    def test_all_states_lead_to_each_other(self):
        machine = Machine(12)
        for place in range(12):
            machine.add_edge(place, (place + 1) % 12, "srR"[place % 3], place % 10)
            machine.add_edge(place, (5 * place + 3) % 12, "Rsr"[place % 3], place % 7)
        machine.add_edge(0, 7, "srs", 1)
        part, other = ("moves", machine, 0, 5), ("moves", machine, 4, 9)
        self.assertEqual(len(ground(part)[1].states), 14)
        for one, another in [(part, part), (part, other), (other, part)]:
            with within(5):
                self.assertIs(check_contained(one, another, contained(one, another)), True)
                self.assertIs(check_met(one, another, met(one, another)), True)


class Errors(ComparisonCase):
    def test_order_of_errors(self):
        machine, big = two_places(), machine_with(12, (0, 1, "srsr", 1))
        good = ("moves", machine, 0, 1)
        value = ("values", machine, 0, (0, 1), 1)
        for one, other, error, name, kept in [
            (("moves", machine, 2, 3), ("moves", machine, 4, 5), UnknownPlace, "place", 2),
            (("moves", machine, 0, 3), ("moves", machine, 4, 5), UnknownPlace, "place", 3),
            (good, ("moves", machine, 4, 5), UnknownPlace, "place", 4),
            (good, ("moves", machine, 0, 5), UnknownPlace, "place", 5),
            (("moves", big, 0, 0), ("moves", machine, 0, 5), UnknownPlace, "place", 5),
            (("moves", big, 0, 12), good, UnknownPlace, "place", 12),
            (("moves", big, 0, 0), good, LimitExceeded, "limit", 14),
            (good, ("moves", big, 0, 0), LimitExceeded, "limit", 14),
            (("values", machine, 0, "v", 3), ("values", machine, 2, "w", 1), UnknownPlace, "place", 3),
            (("values", machine, 2, "v", 3), value, UnknownPlace, "place", 2),
            (("values", machine, 0, "v", 1), ("values", machine, 2, "w", 1), NotAValue, "value", "v"),
            (("values", machine, 0, ELEVEN, 1), ("values", machine, 2, "w", 1), LimitExceeded, "limit", 10),
            (value, ("values", machine, 2, "w", 1), UnknownPlace, "place", 2),
            (value, ("values", machine, 0, "w", 7), UnknownPlace, "place", 7),
            (value, ("values", machine, 0, "w", 1), NotAValue, "value", "w"),
            (value, ("values", machine, 0, ELEVEN, 1), LimitExceeded, "limit", 10),
            (("values", big, 0, (0, 1), 1), ("values", machine, 0, (2, 2), 1), NotAValue, "value", (2, 2)),
            (("values", big, 0, (0, 1), 1), ("values", machine, 0, ELEVEN, 1), LimitExceeded, "limit", 10),
            (("values", big, 0, (0, 1), 1), value, LimitExceeded, "limit", 14),
            (value, ("values", machine, 0, TEN, 1), LimitExceeded, "limit", 14),
        ]:
            for call in (contained, met):
                before = [snapshot(one[1]), snapshot(other[1])]
                self.assert_refuses(error, name, kept, lambda: call(one, other))
                self.assertEqual([snapshot(one[1]), snapshot(other[1])], before)


class Certificates(ComparisonCase):
    def test_parted_words_have_routes(self):
        for machine in some_machines(40, places=3, edges=5, longest=3, seed=63):
            one, other = ("moves", machine, 0, 0), ("moves", machine, 0, len(machine) - 1)
            if len(machine.system(0).states) > 14:
                continue
            verdict = self.contained(one, other)
            if verdict[0] == "parted":
                _, word, derivation, table = verdict
                self.assertIsNotNone(cost_of_derivation(derivation, machine.system(0), word, (-1, 0)))
                self.assertIsNone(reading(table, machine.system(0), word, (-1, len(machine) - 1)))


if __name__ == "__main__":
    unittest.main()
