"""Points 20 and 21: walkers, their edits, checkpoints and records."""

import copy
import random
import unittest

from fracwalk.errors import (
    LimitExceeded,
    NotAValue,
    NotAWord,
    NotReduced,
    UnknownCheckpoint,
    UnknownEdge,
    UnknownPlace,
    UnknownRecord,
    WrongPlace,
)
from fracwalk.machines import Machine, machine_of
from fracwalk.questions import check_move
from fracwalk.sessions import Walker
from fracwalk.valuequestions import check_value
from fracwalk.words import value_of, value_word
from tests.checkers import cost_of_derivation, is_closed_table, reading
from tests.helpers import STRANGE_VALUES, in_form, matrix_of, reduced_words
from tests.machine_helpers import MachineCase, machine_with, snapshot, some_machines, two_places
from tests.question_helpers import moved

INFINITY = (1, 0)
TEN = value_of("srsrsrsrsr")
ELEVEN = value_of("srsrsrsrsrs")
STRANGE_NUMBERS = [-1, 10**59, None, True, False, "0", (0,), [], {}]


def machine_now(walker, places, following):
    """A machine of the test's own with the walker's edges."""
    return machine_of(places, walker.edges(), following)


def plain_halves(machine, question, verdict):
    """Point 21 for a question and its verdict, on a machine."""
    if question[0] == "move":
        _, start, place, word = question
        system = machine.system(start)
    else:
        _, start, value, place, target = question
        system, word = machine.value_system(start, value), value_word(target)
    table = verdict[-1]
    closed = is_closed_table(table, system)
    read = reading(table, system, word, (-1, place)) if closed else None
    if verdict[0] == "barred":
        return None, closed and read is None
    at_most = cost_of_derivation(verdict[2], system, word, (-1, place)) == verdict[1]
    return at_most, closed and (read is None or read >= verdict[1])


class WalkerCase(MachineCase):
    def seen(self, walker):
        """All that can be seen of a walker but for its checkpoints and the next edge number."""
        records = []
        while True:
            try:
                records.append((walker.recorded(len(records)), walker.halves(len(records))))
            except UnknownRecord:
                return walker.place, walker.value, list(walker.edges().items()), copy.deepcopy(records)

    def assert_refused(self, walker, error, name, kept, call, *args, **more):
        """The call raises this error and leaves the walker as it is."""
        before = self.seen(walker)
        self.assert_refuses(error, name, kept, call, *args, **more)
        self.assertEqual(self.seen(walker), before)


class Making(WalkerCase):
    def test_fields(self):
        for place, value in [(0, (0, 1)), (1, INFINITY), (1, (-3, 2)), (0, (10**59, 1))]:
            walker = Walker(two_places(), place, value)
            self.assertEqual((walker.place, walker.value), (place, value))
            self.assertEqual(walker.edges(), two_places().edges())

    def test_unknown_places_and_values_that_are_none(self):
        machine = two_places()
        for place in [2, -1, 12, 10**59]:
            self.assert_unchanged(machine, UnknownPlace, "place", place, Walker, machine, place, (0, 1))
            self.assert_unchanged(machine, UnknownPlace, "place", place, Walker, machine, place, None)
        for value in STRANGE_VALUES + [(2, 2), (0, -1), (-1, 0), (0, 0), (True, 1), (1, True)]:
            self.assert_unchanged(machine, NotAValue, "value", value, Walker, machine, 1, value)

    def test_machines_do_not_disturb_each_other(self):
        machine = two_places()
        one, other = Walker(machine, 0, (0, 1)), Walker(machine, 1, INFINITY)
        self.assertEqual(one.add_edge(0, 0, "s", 1), 2)
        self.assertEqual(other.add_edge(1, 1, "r", 5), 2)
        other.remove_edge(0)
        machine.reroute_edge(1, 0, 0)
        self.assertEqual(machine.add_edge(0, 1, "", 3), 2)
        one.take(2)
        self.assertEqual(one.edges(), {0: (0, 1, "rs", 2), 1: (1, 0, "sR", 1), 2: (0, 0, "s", 1)})
        self.assertEqual(other.edges(), {1: (1, 0, "sR", 1), 2: (1, 1, "r", 5)})
        self.assertEqual(machine.edges(), {0: (0, 1, "rs", 2), 1: (0, 0, "sR", 1), 2: (0, 1, "", 3)})
        self.assertEqual((one.place, one.value, other.place, other.value), (0, INFINITY, 1, INFINITY))
        self.assertEqual(one.checkpoint(), 0)
        self.assert_refused(other, UnknownCheckpoint, "number", 0, other.restore, 0)
        self.assertEqual(one.record_move(0, ""), 0)
        self.assert_refused(other, UnknownRecord, "number", 0, other.recorded, 0)

    def test_numbers_go_on_from_the_machine(self):
        machine = machine_of(2, {3: (0, 1, "s", 1)}, 7)
        walker = Walker(machine, 0, (0, 1))
        self.assertEqual(walker.add_edge(0, 0, "", 1), 7)
        self.assertEqual(machine.next_number(), 7)


class Taking(WalkerCase):
    def test_edges_that_fit(self):
        walker = Walker(two_places(), 0, (0, 1))
        for number, place, value in [(0, 1, (1, 1)), (1, 0, (0, 1)), (0, 1, (1, 1))]:
            self.assertIsNone(walker.take(number))
            self.assertEqual((walker.place, walker.value), (place, value))

    def test_all_moves(self):
        for word in reduced_words(4):
            for value in [INFINITY, (0, 1), (-1, 1), (1, 2), (-3, 2)]:
                walker = Walker(machine_with(2, (0, 1, word, 1)), 0, value)
                walker.take(0)
                self.assertEqual((walker.place, walker.value), (1, moved(in_form(matrix_of(word)), value)))

    def test_loops_and_large_values(self):
        walker = Walker(machine_with(1, (0, 0, "rsrsrsrs", 1), (0, 0, "s", 0)), 0, (10**59, 1))
        for number, value in [(0, (10**59 + 4, 1)), (1, (-1, 10**59 + 4)), (0, (4 * 10**59 + 15, 10**59 + 4))]:
            walker.take(number)
            self.assertEqual((walker.place, walker.value), (0, value))

    def test_edges_that_do_not_fit(self):
        walker = Walker(two_places(), 0, (0, 1))
        self.assert_refused(walker, WrongPlace, "number", 1, walker.take, 1)
        walker.take(0)
        self.assert_refused(walker, WrongPlace, "number", 0, walker.take, 0)
        for number in [2, -1, 10**59]:
            self.assert_refused(walker, UnknownEdge, "number", number, walker.take, number)
        walker.remove_edge(1)
        self.assert_refused(walker, UnknownEdge, "number", 1, walker.take, 1)

    def test_rerouted_edges(self):
        walker = Walker(two_places(), 0, (0, 1))
        walker.reroute_edge(0, 1, 0)
        self.assert_refused(walker, WrongPlace, "number", 0, walker.take, 0)
        walker.reroute_edge(0, 0, 0)
        walker.take(0)
        self.assertEqual((walker.place, walker.value), (0, (1, 1)))


class Editing(WalkerCase):
    def test_as_for_a_machine(self):
        machine = machine_with(3, (0, 1, "rs", 2))
        walker = Walker(machine, 0, (0, 1))
        for call in ["add_edge(1, 2, 'sR', 9)", "add_edge(2, 2, '', 0)", "reroute_edge(1, 0, 0)", "remove_edge(0)",
            "add_edge(0, 1, 's', 1)"]:
            done = [eval(f"thing.{call}", {"thing": thing}) for thing in (machine, walker)]
            self.assertEqual(done[0], done[1])
            self.assertEqual(list(walker.edges().items()), list(machine.edges().items()))

    def test_errors_as_for_a_machine(self):
        walker = Walker(two_places(), 0, (0, 1))
        for args, error, name, kept in [
            ((2, 5, "x", 99), UnknownPlace, "place", 2), ((0, 5, "x", 99), UnknownPlace, "place", 5),
            ((0, 1, "x", 99), NotAWord, "value", "x"), ((0, 1, None, 99), NotAWord, "value", None),
            ((0, 1, "ss", 99), NotReduced, "word", "ss"), ((0, 1, "srsrsrsrs", 99), LimitExceeded, "limit", 8),
            ((0, 1, "s", 10), LimitExceeded, "limit", 9), ((0, 1, "s", True), LimitExceeded, "limit", 9),
        ]:
            self.assert_refused(walker, error, name, kept, walker.add_edge, *args)
        for number in [2, -1]:
            self.assert_refused(walker, UnknownEdge, "number", number, walker.remove_edge, number)
            self.assert_refused(walker, UnknownEdge, "number", number, walker.reroute_edge, number, 7, 8)
        self.assert_refused(walker, UnknownPlace, "place", 7, walker.reroute_edge, 0, 7, 8)
        self.assert_refused(walker, UnknownPlace, "place", 8, walker.reroute_edge, 0, 1, 8)
        self.assertEqual(walker.add_edge(0, 0, "srsrsrsr", 0), 2)
        self.assertEqual(walker.add_edge(0, 0, "srsrsrsr", 0), 3)
        self.assert_refused(walker, LimitExceeded, "limit", 20, walker.add_edge, 0, 0, "srsr", 0)
        for number in range(4, 26):
            self.assertEqual(walker.add_edge(0, 0, "", 0), number)
        self.assert_refused(walker, LimitExceeded, "limit", 26, walker.add_edge, 0, 0, "srsr", 0)
        walker.remove_edge(5)
        self.assertEqual(walker.add_edge(0, 0, "", 0), 26)

    def test_edges_are_new(self):
        walker = Walker(two_places(), 0, (0, 1))
        walker.edges().clear()
        self.assertEqual(walker.edges(), two_places().edges())


class Checkpoints(WalkerCase):
    def test_any_number_of_times_and_in_any_order(self):
        walker = Walker(two_places(), 0, (0, 1))
        self.assertEqual(walker.checkpoint(), 0)
        walker.take(0)
        walker.add_edge(1, 1, "s", 4)
        self.assertEqual(walker.checkpoint(), 1)
        walker.remove_edge(0)
        walker.reroute_edge(1, 1, 1)
        walker.take(2)
        self.assertEqual(walker.checkpoint(), 2)
        kept = {
            0: (0, (0, 1), {0: (0, 1, "rs", 2), 1: (1, 0, "sR", 1)}),
            1: (1, (1, 1), {0: (0, 1, "rs", 2), 1: (1, 0, "sR", 1), 2: (1, 1, "s", 4)}),
            2: (1, (-1, 1), {1: (1, 1, "sR", 1), 2: (1, 1, "s", 4)}),
        }
        for number in [0, 0, 2, 1, 0, 1, 2, 2, 0]:
            self.assertIsNone(walker.restore(number))
            self.assertEqual((walker.place, walker.value, walker.edges()), kept[number])
            walker.add_edge(0, 1, "r", 1)
            walker.remove_edge(2 if 2 in walker.edges() else 1)
        self.assertEqual(walker.checkpoint(), 3)

    def test_edge_numbers_are_never_used_again(self):
        walker = Walker(two_places(), 0, (0, 1))
        walker.checkpoint()
        self.assertEqual(walker.add_edge(0, 0, "s", 1), 2)
        walker.restore(0)
        self.assertEqual(walker.add_edge(0, 0, "s", 1), 3)
        self.assertEqual(list(walker.edges()), [0, 1, 3])
        walker.checkpoint()
        walker.restore(0)
        self.assertEqual(walker.add_edge(0, 0, "s", 1), 4)
        walker.restore(1)
        self.assertEqual(list(walker.edges()), [0, 1, 3])
        self.assertEqual(walker.add_edge(0, 0, "s", 1), 5)
        self.assertEqual(list(walker.edges()), [0, 1, 3, 5])

    def test_edges_of_checkpoints_are_kept(self):
        walker = Walker(two_places(), 0, (0, 1))
        walker.checkpoint()
        for _ in range(2):
            walker.reroute_edge(0, 1, 1)
            walker.remove_edge(1)
            walker.add_edge(0, 0, "", 0)
            walker.restore(0)
            self.assertEqual(walker.edges(), two_places().edges())

    def test_unknown_checkpoints(self):
        walker = Walker(two_places(), 0, (0, 1))
        for number in [0] + STRANGE_NUMBERS:
            self.assert_refused(walker, UnknownCheckpoint, "number", number, walker.restore, number)
        walker.checkpoint()
        for number in [1] + STRANGE_NUMBERS:
            self.assert_refused(walker, UnknownCheckpoint, "number", number, walker.restore, number)

    def test_records_stay(self):
        walker = Walker(two_places(), 0, (0, 1))
        walker.checkpoint()
        number = walker.record_move(1, "rs")
        kept = walker.recorded(number)
        walker.add_edge(0, 1, "rs", 1)
        self.assertEqual(walker.halves(number), (True, False))
        walker.restore(0)
        self.assertEqual(walker.recorded(number), kept)
        self.assertEqual(walker.halves(number), (True, True))
        self.assertEqual(walker.record_move(1, "s"), 1)


class Asking(WalkerCase):
    def test_from_the_walkers_place(self):
        walker = Walker(two_places(), 0, (0, 1))
        self.assertEqual(walker.ask_move(1, "rs")[:2], ("reached", 2))
        self.assertEqual(walker.ask_move(0, "sR")[0], "barred")
        self.assertEqual(walker.ask_value(1, (1, 1))[:2], ("reached", 2))
        walker.take(0)
        self.assertEqual(walker.ask_move(1, "")[:2], ("reached", 0))
        self.assertEqual(walker.ask_move(0, "sR")[:2], ("reached", 1))
        self.assertEqual(walker.ask_value(0, (0, 1))[:2], ("reached", 1))
        self.assertEqual(walker.ask_value(1, (1, 1))[:2], ("reached", 0))
        self.assertEqual(walker.ask_value(1, (0, 1))[0], "barred")

    def test_verdicts_are_right(self):
        for machine in some_machines(15, seed=81):
            walker = Walker(machine, 0, (1, 2))
            for place in range(len(machine)):
                for word in ["", "s", "rs", "sR"]:
                    verdict = walker.ask_move(place, word)
                    self.assertIs(check_move(machine, 0, place, word, verdict), True)
                for target in [(1, 2), (0, 1), INFINITY]:
                    verdict = walker.ask_value(place, target)
                    self.assertIs(check_value(machine, 0, (1, 2), place, target, verdict), True)

    def test_errors(self):
        walker = Walker(two_places(), 0, (0, 1))
        long = "rs" * 31
        for args, error, name, kept in [
            ((5, "x"), UnknownPlace, "place", 5), ((-1, "rs"), UnknownPlace, "place", -1),
            ((1, "x"), NotAWord, "value", "x"),
            ((1, ["rs"]), NotAWord, "value", ["rs"]), ((1, "ss"), NotReduced, "word", "ss"),
            ((1, long), LimitExceeded, "limit", 60),
            ((5, long), UnknownPlace, "place", 5),
        ]:
            for call in (walker.ask_move, walker.record_move):
                self.assert_refused(walker, error, name, kept, call, *args)
        for args, error, name, kept in [
            ((5, "v"), UnknownPlace, "place", 5), ((1, "v"), NotAValue, "value", "v"),
            ((1, (2, 2)), NotAValue, "value", (2, 2)),
            ((1, (31, 1)), LimitExceeded, "limit", 60), ((5, (31, 1)), UnknownPlace, "place", 5),
        ]:
            for call in (walker.ask_value, walker.record_value):
                self.assert_refused(walker, error, name, kept, call, *args)
        far = Walker(two_places(), 0, ELEVEN)
        for call in (far.ask_value, far.record_value):
            self.assert_refused(far, LimitExceeded, "limit", 10, call, 1, (0, 1))
            self.assert_refused(far, LimitExceeded, "limit", 10, call, 1, (31, 1))
            self.assert_refused(far, NotAValue, "value", None, call, 1, None)
            self.assert_refused(far, UnknownPlace, "place", 3, call, 3, None)
        self.assertEqual(far.ask_move(1, "rs")[:2], ("reached", 2))
        near = Walker(two_places(), 0, TEN)
        self.assertEqual(near.ask_value(0, TEN)[:2], ("reached", 0))


class Records(WalkerCase):
    def test_example(self):
        walker = Walker(Machine(2), 0, (0, 1))
        walker.add_edge(0, 1, "rs", 2)
        number = walker.record_move(1, "rs")
        before = walker.halves(number)
        walker.add_edge(0, 1, "rs", 1)
        self.assertEqual((before, walker.halves(number)), ((True, True), (True, False)))

    def test_questions_and_verdicts(self):
        walker = Walker(two_places(), 0, (0, 1))
        asked = [walker.ask_move(1, "rs"), walker.ask_move(1, "s"), walker.ask_value(1, (1, 1)),
            walker.ask_value(0, (5, 1))]
        numbers = [
            walker.record_move(1, "rs"), walker.record_move(1, "s"), walker.record_value(1, (1, 1)),
            walker.record_value(0, (5, 1)),
        ]
        self.assertEqual(numbers, [0, 1, 2, 3])
        walker.take(0)
        self.assertEqual(walker.record_value(0, (0, 1)), 4)
        questions = [
            ("move", 0, 1, "rs"), ("move", 0, 1, "s"), ("value", 0, (0, 1), 1, (1, 1)), ("value", 0, (0, 1), 0, (5, 1)),
        ]
        for number in numbers:
            recorded = walker.recorded(number)
            self.assertIs(type(recorded), tuple)
            self.assertEqual(recorded, (questions[number], asked[number]))
        self.assertEqual(walker.recorded(4)[0], ("value", 1, (1, 1), 0, (0, 1)))
        self.assertEqual(walker.recorded(4)[1][:2], ("reached", 1))

    def test_the_same_at_all_times(self):
        walker = Walker(two_places(), 0, (0, 1))
        for number in (walker.record_move(1, "rs"), walker.record_move(1, "s"), walker.record_value(1, (1, 1))):
            kept = copy.deepcopy(walker.recorded(number))
            walker.recorded(number)[1][-1].clear()
            self.assertEqual(walker.recorded(number), kept)
            one, other = walker.recorded(number), walker.recorded(number)
            self.assertIsNot(one[1][-1], other[1][-1])
            one[1][-1]["", (-1, 0), (-1, 0)] = 7
            self.assertEqual(walker.recorded(number), kept)
            self.assertIs(walker.halves(number)[1], True)
            walker.checkpoint()
            walker.remove_edge(0)
            walker.take(walker.add_edge(0, 0, "r", 1))
            self.assertEqual(walker.recorded(number), kept)
            walker.restore(0)
            self.assertEqual(walker.recorded(number), kept)

    def test_refused_records_take_no_number(self):
        walker = Walker(two_places(), 0, (0, 1))
        for call, args in [
            (walker.record_move, (5, "rs")), (walker.record_move, (1, "ss")), (walker.record_value, (1, None)),
            (walker.record_value, (1, (31, 1))),
        ]:
            with self.assertRaises((UnknownPlace, NotReduced, NotAValue, LimitExceeded)):
                call(*args)
        self.assertEqual(walker.record_move(1, "rs"), 0)
        with self.assertRaises(NotAWord):
            walker.record_move(1, 5)
        self.assertEqual(walker.record_value(1, (1, 1)), 1)

    def test_unknown_records(self):
        walker = Walker(two_places(), 0, (0, 1))
        for number in [0] + STRANGE_NUMBERS:
            self.assert_refused(walker, UnknownRecord, "number", number, walker.recorded, number)
            self.assert_refused(walker, UnknownRecord, "number", number, walker.halves, number)
        walker.record_move(0, "")
        for number in [1] + STRANGE_NUMBERS:
            self.assert_refused(walker, UnknownRecord, "number", number, walker.recorded, number)
            self.assert_refused(walker, UnknownRecord, "number", number, walker.halves, number)


class Halves(WalkerCase):
    def test_edges_added_and_removed(self):
        walker = Walker(two_places(), 0, (0, 1))
        reached, barred = walker.record_move(1, "rs"), walker.record_move(1, "rsrs")
        value, none = walker.record_value(1, (1, 1)), walker.record_value(1, (2, 1))
        self.assertEqual([walker.halves(number) for number in (reached, barred, value, none)],
            [(True, True), (None, True)] * 2)
        idle = walker.add_edge(0, 0, "", 5)
        self.assertEqual([walker.halves(number) for number in (reached, barred, value, none)],
            [(True, True), (None, True)] * 2)
        cheap = walker.add_edge(0, 1, "rs", 1)
        self.assertEqual([walker.halves(number) for number in (reached, barred, value, none)],
            [(True, False), (None, False)] * 2)
        walker.remove_edge(cheap)
        # A further edge may be as dear as it will: the table knows nothing of its inner states.
        dear = walker.add_edge(0, 1, "rs", 9)
        self.assertEqual([walker.halves(number) for number in (reached, barred)], [(True, False), (None, False)])
        walker.remove_edge(dear)
        walker.remove_edge(idle)
        walker.remove_edge(0)
        self.assertEqual([walker.halves(number) for number in (reached, barred, value, none)],
            [(False, True), (None, True)] * 2)
        walker.add_edge(0, 1, "rs", 2)
        # The derivation names the edge that is gone.
        self.assertEqual(walker.halves(reached)[0], False)

    def test_rerouted_edges(self):
        walker = Walker(two_places(), 0, (0, 1))
        number = walker.record_move(1, "rs")
        walker.reroute_edge(0, 1, 1)
        self.assertEqual(walker.halves(number), (False, False))
        walker.reroute_edge(0, 0, 1)
        self.assertEqual(walker.halves(number), (True, True))
        walker.reroute_edge(1, 1, 1)
        self.assertEqual(walker.halves(number)[0], True)

    def test_no_cost_is_less(self):
        # A word that cannot be read any more costs at least as much as it did.
        walker = Walker(two_places(), 0, (0, 1))
        number = walker.record_move(1, "rs")
        walker.remove_edge(0)
        self.assertEqual(walker.halves(number), (False, True))

    def test_values_are_types_of_truth(self):
        walker = Walker(two_places(), 0, (0, 1))
        for number in (walker.record_move(1, "rs"), walker.record_value(1, (1, 1))):
            self.assertEqual([type(half) for half in walker.halves(number)], [bool, bool])
        number = walker.record_move(1, "s")
        self.assertIsNone(walker.halves(number)[0])
        self.assertIs(walker.halves(number)[1], True)
        walker.add_edge(0, 1, "s", 3)
        self.assertIs(walker.halves(number)[1], False)

    def test_steps_of_the_walker_change_nothing(self):
        walker = Walker(two_places(), 0, (0, 1))
        numbers = [walker.record_move(1, "rs"), walker.record_value(1, (1, 1)), walker.record_value(0, (9, 1))]
        before = [walker.halves(number) for number in numbers]
        walker.take(0)
        self.assertEqual([walker.halves(number) for number in numbers], before)

    def test_histories(self):
        draw = random.Random(19)
        words, values = reduced_words(3), [INFINITY, (0, 1), (-1, 1), (1, 2), (1, 1)]
        told = {}
        for machine in some_machines(25, places=3, edges=4, longest=3, seed=83):
            places, following = len(machine), machine.next_number()
            walker = Walker(machine, draw.randrange(places), draw.choice(values))
            kept, checkpoints = [], 0
            for _ in range(30):
                action = draw.randrange(8)
                numbers = list(walker.edges())
                if action == 0:
                    try:
                        self.assertEqual(
                            walker.add_edge(draw.randrange(places), draw.randrange(places), draw.choice(words),
                                draw.randint(0, 3)),
                            following,
                        )
                        following += 1
                    except LimitExceeded:
                        pass
                elif action == 1 and numbers:
                    walker.remove_edge(draw.choice(numbers))
                elif action == 2 and numbers:
                    walker.reroute_edge(draw.choice(numbers), draw.randrange(places), draw.randrange(places))
                elif action == 3:
                    self.assertEqual(walker.checkpoint(), checkpoints)
                    checkpoints += 1
                elif action == 4 and checkpoints:
                    walker.restore(draw.randrange(checkpoints))
                elif action == 5:
                    going = [number for number, edge in walker.edges().items() if edge[0] == walker.place]
                    if going:
                        walker.take(draw.choice(going))
                elif action == 6:
                    self.assertEqual(walker.record_move(draw.randrange(places), draw.choice(words)), len(kept))
                    kept.append(copy.deepcopy(walker.recorded(len(kept))))
                elif action == 7 and len(value_word(walker.value, limit=10**6)) <= 10:
                    self.assertEqual(walker.record_value(draw.randrange(places), draw.choice(values)), len(kept))
                    kept.append(copy.deepcopy(walker.recorded(len(kept))))
                now = machine_now(walker, places, following)
                for number, (question, verdict) in enumerate(kept):
                    halves = walker.halves(number)
                    self.assertEqual(halves, plain_halves(now, question, verdict))
                    told[halves] = told.get(halves, 0) + 1
                    if draw.random() < 0.1:
                        self.assertEqual(walker.recorded(number), (question, verdict))
        self.assertEqual(set(told), {(None, True), (None, False), (True, True), (True, False), (False, True),
                (False, False)})
        self.assertGreater(min(told.values()), 20)

    def test_adding_ends_no_first_half_and_removing_no_second(self):
        draw = random.Random(23)
        words = reduced_words(3)
        for machine in some_machines(25, places=3, edges=5, longest=2, seed=85):
            walker = Walker(machine, 0, (0, 1))
            for place in range(len(machine)):
                for word in words[:: 3]:
                    walker.record_move(place, word)
                walker.record_value(place, (1, 1))
            count = 0
            while True:
                try:
                    walker.recorded(count)
                    count += 1
                except UnknownRecord:
                    break
            for _ in range(4):
                before = [walker.halves(number) for number in range(count)]
                try:
                    walker.add_edge(draw.randrange(len(machine)), draw.randrange(len(machine)), draw.choice(words), 0)
                except LimitExceeded:
                    break
                after = [walker.halves(number) for number in range(count)]
                self.assertEqual([half[0] for half in before], [half[0] for half in after])
            for edge in list(walker.edges()):
                before = [walker.halves(number) for number in range(count)]
                walker.remove_edge(edge)
                after = [walker.halves(number) for number in range(count)]
                self.assertTrue(all(later[1] for earlier, later in zip(before, after) if earlier[1]))


class Twins(WalkerCase):
    def test_the_machine_is_as_before(self):
        machine = two_places()
        before = snapshot(machine)
        walker = Walker(machine, 0, (0, 1))
        walker.take(0)
        walker.add_edge(0, 0, "s", 1)
        walker.checkpoint()
        walker.restore(0)
        walker.record_move(1, "rs")
        walker.record_value(1, (1, 1))
        walker.halves(0)
        walker.recorded(1)
        walker.remove_edge(0)
        self.assertEqual(snapshot(machine), before)


if __name__ == "__main__":
    unittest.main()
