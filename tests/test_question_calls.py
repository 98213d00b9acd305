"""Point 2 for questions, sets, comparisons, programs, sessions and formats: calls, and what they leave unchanged."""

import copy
import itertools
import unittest

from fracwalk import comparisons, formats, programs, questions, sessions, sets, valuequestions
from fracwalk.errors import (
    InvalidProgram,
    LimitExceeded,
    NotAValue,
    NotAWord,
    NotReduced,
    ParseError,
    UnknownCheckpoint,
    UnknownEdge,
    UnknownPlace,
    UnknownRecord,
    WrongPlace,
)
from fracwalk.machines import Machine
from tests.machine_helpers import machine_with, snapshot, two_places
from tests.test_machine_calls import shown

# The machine of these calls, and one with an endless set; each test must find them unchanged.
MACHINE = two_places()
LOOP = machine_with(1, (0, 0, "rs", 1))
REACHED = questions.ask_move(MACHINE, 0, 1, "rs")
HELD = valuequestions.ask_value(MACHINE, 0, (0, 1), 1, (1, 1))
MOVES = ("moves", MACHINE, 0, 1)
VALUES = ("values", MACHINE, 0, (0, 1), 1)
POWERS = ("moves", LOOP, 0, 0)
LISTED = sets.list_set(MOVES, limit=5)
WITHIN = comparisons.contained(MOVES, POWERS)
COMMON = comparisons.met(POWERS, MOVES)
PROGRAM = ("repeat", ("part", "a"))
PARTS = {"a": ("move", "rs", 1)}
TRACE = ("repeat", (("part", ("move",)),))
TEXT = "places 2\nedge 0 0 1 rs 2\nedge 1 1 0 sR 1\nnext 2\n"

# Function, the names and arguments in the order of the interface, names that are passed by name only, and the
# result, a machine as its fields; a verdict without its certificate.
CALLS = [
    (questions.ask_move, [("machine", MACHINE), ("start", 0), ("place", 1), ("word", "rs")], {}, REACHED),
    (questions.ask_move, [("machine", MACHINE), ("start", 1), ("place", 0), ("word", "s")], {}, ("barred",)),
    (
        questions.check_move,
        [("machine", MACHINE), ("start", 0), ("place", 1), ("word", "rs"), ("verdict", REACHED)], {}, True,
    ),
    (
        valuequestions.ask_value,
        [("machine", MACHINE), ("start", 0), ("value", (0, 1)), ("place", 1), ("target", (1, 1))], {}, HELD,
    ),
    (
        valuequestions.check_value,
        [("machine", MACHINE), ("start", 0), ("value", (0, 1)), ("place", 1), ("target", (1, 1)), ("verdict", HELD)],
        {}, True,
    ),
    (sets.list_set, [("part", MOVES)], {"limit": 5}, LISTED),
    (sets.list_set, [("part", VALUES)], {"limit": 1}, ("finite", ("srs",))),
    (sets.list_set, [("part", POWERS)], {"limit": 0}, ("endless",)),
    (sets.check_list, [("part", MOVES), ("verdict", LISTED)], {}, True),
    (comparisons.contained, [("one", MOVES), ("other", POWERS)], {}, WITHIN),
    (comparisons.contained, [("one", POWERS), ("other", MOVES)], {}, ("parted", "")),
    (comparisons.met, [("one", POWERS), ("other", MOVES)], {}, COMMON),
    (comparisons.met, [("one", MOVES), ("other", ("moves", MACHINE, 1, 0))], {}, ("apart",)),
    (comparisons.check_contained, [("one", MOVES), ("other", POWERS), ("verdict", WITHIN)], {}, True),
    (comparisons.check_met, [("one", POWERS), ("other", MOVES), ("verdict", COMMON)], {}, True),
    (programs.require_program, [("program", PROGRAM), ("parts", PARTS)], {}, None),
    (
        programs.compile_program, [("program", PROGRAM), ("parts", PARTS)], {},
        (3, [(0, (0, 2, "", 0)), (1, (2, 2, "rs", 1)), (2, (2, 1, "", 0))], 3),
    ),
    (programs.trace_word, [("program", PROGRAM), ("parts", PARTS), ("trace", TRACE)], {}, ("rs", 1)),
    (programs.route_of_trace, [("program", PROGRAM), ("parts", PARTS), ("trace", TRACE)], {}, (0, 1, 2)),
    (programs.trace_of_route, [("program", PROGRAM), ("parts", PARTS), ("route", (0, 1, 2))], {}, TRACE),
    (programs.trace_of_route, [("program", PROGRAM), ("parts", PARTS), ("route", (0, 1))], {}, None),
    (formats.format_machine, [("machine", MACHINE)], {}, TEXT),
    (formats.format_value, [("value", (-3, 2))], {}, "-3/2"),
    (formats.parse_machine, [("text", TEXT)], {}, (2, list(MACHINE.edges().items()), 2)),
    (formats.parse_value, [("text", "-3/2")], {}, (-3, 2)),
]

# The methods of a walker at place 0 of the machine, with value 0, one checkpoint and one record.
METHODS = [
    ("take", [("number", 0)], None),
    ("add_edge", [("start", 0), ("end", 1), ("word", "s"), ("cost", 9)], 2),
    ("remove_edge", [("number", 1)], None),
    ("reroute_edge", [("number", 1), ("start", 0), ("end", 1)], None),
    ("edges", [], MACHINE.edges()),
    ("checkpoint", [], 1),
    ("restore", [("number", 0)], None),
    ("ask_move", [("place", 1), ("word", "rs")], REACHED),
    ("ask_value", [("place", 1), ("target", (1, 1))], HELD),
    ("record_move", [("place", 1), ("word", "rs")], 1),
    ("record_value", [("place", 1), ("target", (1, 1))], 1),
    ("recorded", [("number", 0)], (("move", 0, 1, "rs"), REACHED)),
    ("halves", [("number", 0)], (True, True)),
]


def walker():
    made = sessions.Walker(MACHINE, 0, (0, 1))
    made.checkpoint()
    made.record_move(1, "rs")
    return made


def begins_so(found, result):
    """A verdict may have another certificate; all other results are equal."""
    found = shown(found)
    if isinstance(result, tuple) and result and result[0] in ("reached", "barred", "endless", "apart", "parted",
        "finite"):
        length = {"reached": 2, "barred": 1, "endless": 1, "apart": 1, "parted": 2, "finite": 2}[result[0]]
        return found[:length] == result[:length]
    return found == result and type(found) is type(result)


def seen(values):
    """All of some arguments that could be changed."""
    machines = [MACHINE, LOOP]
    return copy.deepcopy([value for value in values if not isinstance(value,
                Machine)]), [snapshot(machine) for machine in machines]


class Calls(unittest.TestCase):
    def assert_call(self, function, result, arguments, more):
        before = seen([*arguments, *more.values()])
        found = function(*arguments, **more)
        self.assertTrue(begins_so(found, result), found)
        self.assertEqual(seen([*arguments, *more.values()]), before)

    def test_by_position(self):
        for function, arguments, named, result in CALLS:
            with self.subTest(function.__name__):
                self.assert_call(function, result, [worth for _, worth in arguments], named)

    def test_by_name_in_any_order(self):
        for function, arguments, named, result in CALLS:
            with self.subTest(function.__name__):
                for order in itertools.islice(itertools.permutations([*arguments, *named.items()]), 24):
                    self.assert_call(function, result, [], dict(order))
                self.assert_call(function, result, [], dict([*named.items(), *arguments[::-1]]))

    def test_first_by_position_and_the_rest_by_name(self):
        for function, arguments, named, result in CALLS:
            with self.subTest(function.__name__):
                self.assert_call(function, result, [arguments[0][1]], {**named, **dict(arguments[:0:-1])})

    def test_arguments_have_no_default(self):
        for function, arguments, named, _ in CALLS:
            every = {**dict(arguments), **named}
            for name in every:
                with self.subTest(function.__name__, name=name), self.assertRaises(TypeError):
                    function(**{other: worth for other, worth in every.items() if other != name})

    def test_no_further_argument(self):
        for function, arguments, named, _ in CALLS:
            with self.subTest(function.__name__), self.assertRaises(TypeError):
                function(*[worth for _, worth in arguments], 5, **named)

    def test_twice_the_same(self):
        for function, arguments, named, result in CALLS:
            found = [shown(function(*[worth for _, worth in arguments], **named)) for _ in range(2)]
            self.assertEqual(found[0], found[1])

    def test_walkers(self):
        self.assertEqual(sessions.Walker(value=(0, 1), machine=MACHINE, place=0).place, 0)
        for name, arguments, result in METHODS:
            with self.subTest(name):
                self.assert_call(getattr(walker(), name), result, [worth for _, worth in arguments], {})
                for order in itertools.permutations(arguments):
                    self.assert_call(getattr(walker(), name), result, [], dict(order))
                if arguments:
                    self.assert_call(getattr(walker(), name), result, [arguments[0][1]], dict(arguments[:0:-1]))
                for missing, _ in arguments:
                    with self.assertRaises(TypeError):
                        getattr(walker(), name)(**{other: worth for other, worth in arguments if other != missing})
                with self.assertRaises(TypeError):
                    getattr(walker(), name)(*[worth for _, worth in arguments], 5)

    def test_the_samples_are_unchanged(self):
        self.assertEqual(snapshot(MACHINE), snapshot(two_places()))
        self.assertEqual(snapshot(LOOP), snapshot(machine_with(1, (0, 0, "rs", 1))))


class Unchanged(unittest.TestCase):
    def test_calls_that_raise(self):
        thing = walker()
        thing.take(0)
        places = (thing.place, thing.value, thing.edges(), thing.recorded(0), thing.halves(0))
        for call, error in [
            (lambda: questions.ask_move(MACHINE, 0, 1, "ss"), NotReduced),
            (lambda: questions.ask_move(MACHINE, 0, 1, "rs" * 31), LimitExceeded),
            (lambda: valuequestions.ask_value(MACHINE, 0, (0, 1), 1, (31, 1)), LimitExceeded),
            (lambda: valuequestions.ask_value(MACHINE, 0, (0, 2), 1, (1, 1)), NotAValue),
            (lambda: sets.list_set(MOVES, limit=0), LimitExceeded),
            (lambda: sets.list_set(("moves", MACHINE, 0, 2), limit=0), UnknownPlace),
            (lambda: comparisons.contained(MOVES, ("moves", LOOP, 0, 1)), UnknownPlace),
            (lambda: comparisons.met(MOVES, ("moves", machine_with(12, (0, 0, "srsr", 1)), 0, 1)), LimitExceeded),
            (lambda: programs.require_program(PROGRAM, {}), InvalidProgram),
            (lambda: programs.compile_program(("part", "b"), PARTS), InvalidProgram),
            (lambda: formats.parse_machine(TEXT + "x"), ParseError),
            (lambda: formats.parse_value("2/2"), ParseError),
            (lambda: sessions.Walker(MACHINE, 2, (0, 1)), UnknownPlace),
            (lambda: thing.take(0), WrongPlace),
            (lambda: thing.take(2), UnknownEdge),
            (lambda: thing.add_edge(0, 1, "x", 1), NotAWord),
            (lambda: thing.remove_edge(2), UnknownEdge),
            (lambda: thing.reroute_edge(0, 0, 2), UnknownPlace),
            (lambda: thing.restore(1), UnknownCheckpoint),
            (lambda: thing.ask_move(2, "rs"), UnknownPlace),
            (lambda: thing.record_move(0, "ss"), NotReduced),
            (lambda: thing.record_value(0, (0, 0)), NotAValue),
            (lambda: thing.recorded(1), UnknownRecord),
            (lambda: thing.halves(1), UnknownRecord),
        ]:
            for _ in range(2):
                with self.assertRaises(error):
                    call()
                self.assertEqual(snapshot(MACHINE), snapshot(two_places()))
                self.assertEqual((thing.place, thing.value, thing.edges(), thing.recorded(0), thing.halves(0)), places)
        self.assertEqual((thing.add_edge(0, 0, "", 0), thing.checkpoint(), thing.record_move(0, "")), (2, 1, 1))
        self.assertEqual(PARTS, {"a": ("move", "rs", 1)})

    def test_cleared_tables_change_no_later_verdict(self):
        thing = walker()
        for ask, table_of in [
            (lambda: questions.ask_move(MACHINE, 0, 1, "rs"), lambda verdict: verdict[3]),
            (lambda: questions.ask_move(MACHINE, 0, 1, "s"), lambda verdict: verdict[1]),
            (lambda: valuequestions.ask_value(MACHINE, 0, (0, 1), 1, (1, 1)), lambda verdict: verdict[3]),
            (lambda: sets.list_set(MOVES, limit=5), lambda verdict: verdict[2][1]),
            (lambda: comparisons.contained(MOVES, POWERS), lambda verdict: verdict[1][0]),
            (lambda: comparisons.contained(POWERS, MOVES), lambda verdict: verdict[3]),
            (lambda: comparisons.met(MOVES, ("moves", MACHINE, 1, 0)), lambda verdict: verdict[1][0]),
            (lambda: comparisons.met(MOVES, ("moves", MACHINE, 1, 0)), lambda verdict: verdict[1][1]),
            (lambda: thing.ask_move(1, "rs"), lambda verdict: verdict[3]),
            (lambda: thing.ask_value(1, (2, 1)), lambda verdict: verdict[1]),
            (lambda: thing.recorded(0), lambda recorded: recorded[1][3]),
            (thing.edges, lambda edges: edges),
        ]:
            kept = copy.deepcopy(ask())
            table = table_of(ask())
            self.assertGreater(len(table), 0)
            table.clear()
            self.assertEqual(ask(), kept)

    def test_machines_edited_after_the_answer(self):
        machine = two_places()
        part = ("moves", machine, 0, 1)
        kept = questions.ask_move(machine, 0, 1, "rs"), sets.list_set(part, limit=5), comparisons.contained(part, part)
        before = copy.deepcopy(kept)
        machine.add_edge(0, 0, "rs", 0)
        machine.remove_edge(0)
        self.assertEqual(kept, before)
        self.assertIs(questions.check_move(machine, 0, 1, "rs", kept[0]), False)
        self.assertEqual(sets.list_set(part, limit=5)[:2], ("finite", ()))
        compiled = programs.compile_program(PROGRAM, PARTS)
        compiled.remove_edge(1)
        self.assertEqual(len(programs.compile_program(PROGRAM, PARTS).edges()), 3)


if __name__ == "__main__":
    unittest.main()
