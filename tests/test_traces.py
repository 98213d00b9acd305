"""Points 18 and 19: the words, costs and routes of traces, and the traces of routes."""

import copy
import itertools
import random
import unittest

from fracwalk.errors import LimitExceeded
from fracwalk.programs import compile_program, route_of_trace, trace_of_route, trace_word
from tests.helpers import Case, within
from tests.program_helpers import drawn_parts, drawn_program, drawn_trace, plain_fault, plain_walk

MOVE = ("move", "rs", 1)
ONE = ("move", "s", 2)
NOTHING = ("row", ())
WAY = ("move",)


def row(*programs):
    return ("row", programs)


def choice(*programs):
    return ("choice", programs)


class TraceCase(Case):
    def assert_trace(self, program, parts, trace, word, cost, route):
        before = copy.deepcopy((program, parts, trace, route))
        self.assertEqual(trace_word(program, parts, trace), (word, cost))
        self.assertEqual(route_of_trace(program, parts, trace), route)
        self.assertIs(type(route_of_trace(program, parts, trace)), tuple)
        self.assert_route(program, parts, route)
        machine = compile_program(program, parts)
        self.assertEqual(machine.run_route(0, route), (1, word, cost))
        self.assertEqual((program, parts, trace, route), before)

    def assert_route(self, program, parts, route):
        """The trace of the route leads back to it."""
        trace = trace_of_route(program, parts, route)
        self.assertIsNotNone(trace)
        self.assertEqual(route_of_trace(program, parts, trace), route)
        self.assertEqual((1, *trace_word(program, parts, trace)), compile_program(program, parts).run_route(0, route))
        return trace


class Traces(TraceCase):
    def test_example(self):
        program = ("repeat", ("move", "rs", 1))
        self.assertEqual(trace_word(program, {}, ("repeat", (("move",), ("move",)))), ("rsrs", 2))
        self.assert_trace(program, {}, ("repeat", (WAY, WAY)), "rsrs", 2, (0, 1, 1, 2))

    def test_each_form(self):
        for program, trace, word, cost, route in [
            (MOVE, WAY, "rs", 1, (0,)),
            (("move", "", 7), WAY, "", 7, (0,)),
            (NOTHING, ("row", ()), "", 0, (0,)),
            (row(MOVE), ("row", (WAY,)), "rs", 1, (0,)),
            (row(MOVE, ONE), ("row", (WAY, WAY)), "r", 3, (0, 1)),
            (row(NOTHING, ONE, NOTHING), ("row", (("row", ()), WAY, ("row", ()))), "s", 2, (0, 1, 2)),
            (choice(MOVE, ONE), ("choice", 0, WAY), "rs", 1, (0,)),
            (choice(MOVE, ONE), ("choice", 1, WAY), "s", 2, (1,)),
            (choice(choice(), NOTHING), ("choice", 1, ("row", ())), "", 0, (0,)),
            (choice(row(ONE, MOVE), ONE), ("choice", 1, WAY), "s", 2, (2,)),
            (("repeat", ONE), ("repeat", ()), "", 0, (0, 2)),
            (("repeat", ONE), ("repeat", (WAY,)), "s", 2, (0, 1, 2)),
            (("repeat", ONE), ("repeat", (WAY, WAY)), "", 4, (0, 1, 1, 2)),
            (("repeat", choice()), ("repeat", ()), "", 0, (0, 1)),
            (("repeat", ("repeat", ONE)), ("repeat", (("repeat", (WAY,)), ("repeat", ()))), "s", 2,
                (0, 1, 2, 3, 1, 3, 4)),
        ]:
            self.assert_trace(program, {}, trace, word, cost, route)
            self.assert_trace(("part", "a"), {"a": program}, ("part", trace), word, cost, route)
            self.assert_trace(
                ("part", "b"), {"a": program, "b": choice(("part", "a"))}, ("part", ("choice", 0, ("part", trace))),
                word, cost, route
            )

    def test_equal_programs_beside_each_other(self):
        program = choice(MOVE, MOVE, ("part", "a"), ("part", "a"))
        for index in range(4):
            inner = WAY if index < 2 else ("part", WAY)
            self.assert_trace(program, {"a": MOVE}, ("choice", index, inner), "rs", 1, (index,))
            self.assertEqual(trace_of_route(program, {"a": MOVE}, (index,)), ("choice", index, inner))

    def test_traces_of_routes(self):
        program = ("repeat", row(choice(ONE, MOVE), ("repeat", MOVE)))
        for route, trace in [
            ((0, 6), ("repeat", ())),
            ((0, 1, 3, 5, 6), ("repeat", (("row", (("choice", 0, WAY), ("repeat", ()))),))),
            ((0, 2, 3, 4, 4, 5, 6), ("repeat", (("row", (("choice", 1, WAY), ("repeat", (WAY, WAY)))),))),
            (
                (0, 2, 3, 5, 1, 3, 4, 5, 6),
                ("repeat", (("row", (("choice", 1, WAY), ("repeat", ()))),
                        ("row", (("choice", 0, WAY), ("repeat", (WAY,)))))),
            ),
        ]:
            self.assertEqual(trace_of_route(program, {}, route), trace)
            self.assertEqual(route_of_trace(program, {}, trace), route)

    def test_words_are_reduced(self):
        program = ("repeat", choice(("move", "s", 1), ("move", "r", 1), ("move", "R", 1)))
        for ways, word in [("srRs", ""), ("rr", "R"), ("srrs", "sRs"), ("ssr", "r"), ("rrr", "")]:
            trace = ("repeat", tuple(("choice", "srR".index(letter), WAY) for letter in ways))
            self.assertEqual(trace_word(program, {}, trace), (word, len(ways)))

    def test_drawn_traces(self):
        draw = random.Random(12)
        walked = 0
        while walked < 400:
            parts = drawn_parts(draw, draw.randint(0, 4))
            program = drawn_program(draw, sorted(parts))
            if plain_fault(program, parts) is not None:
                continue
            trace = drawn_trace(draw, program, parts)
            if trace is None:
                continue
            word, cost, length = plain_walk(program, parts, trace)
            self.assertEqual(trace_word(program, parts, trace), (word, cost))
            try:
                compile_program(program, parts)
            except LimitExceeded:
                continue
            route = route_of_trace(program, parts, trace)
            self.assertEqual(len(route), length)
            self.assert_trace(program, parts, trace, word, cost, route)
            self.assertEqual(trace_of_route(program, parts, route), trace)
            walked += 1

    def test_long_traces_without_delay(self):
        program = ("repeat", ("repeat", row(choice(ONE, MOVE), ("part", "a"))))
        parts = {"a": choice(row(), ("repeat", ONE))}
        inner = ("row", (("choice", 1, WAY), ("part", ("choice", 1, ("repeat", (WAY, WAY))))))
        trace = ("repeat", (("repeat", (inner,) * 40),) * 40)
        with within(3):
            self.assertEqual(trace_word(program, parts, trace), ("rs" * 1600, 5 * 1600))
            route = route_of_trace(program, parts, trace)
            self.assertEqual(trace_of_route(program, parts, route), trace)


class Routes(TraceCase):
    def test_routes_walked_at_random(self):
        draw = random.Random(15)
        ended = stopped = 0
        while ended < 250 or stopped < 250:
            parts = drawn_parts(draw, draw.randint(0, 4))
            program = drawn_program(draw, sorted(parts))
            if plain_fault(program, parts) is not None:
                continue
            try:
                machine = compile_program(program, parts)
            except LimitExceeded:
                continue
            at, route = 0, ()
            for _ in range(draw.randint(0, 25)):
                going = [number for number, edge in machine.edges().items() if edge[0] == at]
                if not going:
                    break
                route += (draw.choice(going),)
                at = machine.edges()[route[-1]][1]
            if at == 1:
                self.assert_route(program, parts, route)
                ended += 1
                for length in range(len(route)):
                    self.assertIsNone(trace_of_route(program, parts, route[:length]))
            else:
                self.assertIsNone(trace_of_route(program, parts, route))
                stopped += 1

    def test_all_short_tuples(self):
        # Each tuple of numbers is the route of a trace exactly if it leads from place 0 to place 1.
        for program, parts in [
            (choice(row(ONE, MOVE), ("repeat", ONE)), {}),
            (("repeat", choice(ONE, NOTHING)), {}),
            (row(("part", "a"), ("part", "a")), {"a": choice(ONE, MOVE)}),
            (choice(), {}),
        ]:
            machine = compile_program(program, parts)
            edges = machine.edges()
            for length in range(5):
                for route in itertools.product(range(-1, len(edges) + 1), repeat=length):
                    at = 0
                    for number in route:
                        at = edges[number][1] if number in edges and edges[number][0] == at else None
                    if at == 1:
                        self.assert_route(program, parts, route)
                    else:
                        self.assertIsNone(trace_of_route(program, parts, route))

    def test_tuples_that_are_no_routes(self):
        program = row(MOVE, ("repeat", ONE))
        self.assert_route(program, {}, (0, 1, 2, 3))
        for route in [
            (), (0,), (0, 1), (0, 1, 2), (1, 3), (3,), (0, 1, 3, 3), (0, 2, 3), (0, 1, 2, 3, 0), (0, 0, 1, 3),
            (0, 1, 4), (-4, 1, 3),
            (0, 1, -1), (10**59,), (0, 1, 3, 10**59), (4,), (0, 1, 2, 2, 2),
        ]:
            self.assertIsNone(trace_of_route(program, {}, route))
        self.assertIsNone(trace_of_route(choice(), {}, ()))
        self.assertIsNone(trace_of_route(choice(), {}, (0,)))
        self.assertIsNone(trace_of_route(row(MOVE, choice()), {}, (0,)))

    def test_what_is_no_number(self):
        for route in [(False,), (None,), ("0",), ((0,),), (0, True)]:
            self.assertIsNone(trace_of_route(MOVE, {}, route))


if __name__ == "__main__":
    unittest.main()
