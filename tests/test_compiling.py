"""Point 19: the machine of a program, and the errors of compiling it."""

import copy
import random
import unittest

from fracwalk.errors import InvalidProgram, LimitExceeded
from fracwalk.machines import Machine
from fracwalk.programs import compile_program
from tests.helpers import Case, within
from tests.program_helpers import drawn_parts, drawn_program, plain_edges, plain_fault

MOVE = ("move", "rs", 1)
ONE = ("move", "s", 2)
NOTHING = ("row", ())


def row(*programs):
    return ("row", programs)


def choice(*programs):
    return ("choice", programs)


class CompileCase(Case):
    def assert_machine(self, places, edges, program, parts=None):
        parts = {} if parts is None else parts
        before = copy.deepcopy((program, parts))
        machine = compile_program(program, parts)
        self.assertEqual((program, parts), before)
        self.assertIsInstance(machine, Machine)
        self.assertEqual(len(machine), places)
        self.assertEqual(list(machine.edges().items()), list(enumerate(edges)))
        self.assertEqual(machine.next_number(), len(edges))
        return machine

    def assert_limit(self, limit, program, parts=None):
        self.assert_refuses(LimitExceeded, "limit", limit, compile_program, program, {} if parts is None else parts)


class Machines(CompileCase):
    def test_example(self):
        program = ("repeat", ("move", "rs", 1))
        self.assertEqual(compile_program(program, {}).edges(), {0: (0, 2, "", 0), 1: (2, 2, "rs", 1), 2: (2, 1, "", 0)})
        self.assert_machine(3, [(0, 2, "", 0), (2, 2, "rs", 1), (2, 1, "", 0)], program)

    def test_moves(self):
        for word, cost in [("", 0), ("s", 9), ("srsrsrsr", 3)]:
            self.assert_machine(2, [(0, 1, word, cost)], ("move", word, cost))

    def test_rows_of_0_1_and_more(self):
        self.assert_machine(2, [(0, 1, "", 0)], NOTHING)
        self.assert_machine(2, [(0, 1, "rs", 1)], row(MOVE))
        self.assert_machine(2, [(0, 1, "rs", 1)], row(row(row(MOVE))))
        self.assert_machine(3, [(0, 2, "rs", 1), (2, 1, "s", 2)], row(MOVE, ONE))
        self.assert_machine(4, [(0, 2, "rs", 1), (2, 3, "s", 2), (3, 1, "", 0)], row(MOVE, ONE, NOTHING))
        eight = [(0, 2, "s", 2)] + [(at, at + 1, "s", 2) for at in range(2, 8)] + [(8, 1, "s", 2)]
        self.assert_machine(9, eight, row(*[ONE] * 8))

    def test_places_of_a_row_come_before_those_within_it(self):
        self.assert_machine(
            6,
            [(0, 4, "rs", 1), (4, 2, "rs", 1), (2, 3, "s", 2), (3, 5, "", 0), (5, 5, "s", 2), (5, 1, "", 0)],
            row(row(MOVE, MOVE), ONE, ("repeat", ONE)),
        )

    def test_choices_of_0_and_more(self):
        self.assert_machine(2, [], choice())
        self.assert_machine(2, [(0, 1, "rs", 1)], choice(MOVE))
        self.assert_machine(2, [(0, 1, "rs", 1), (0, 1, "s", 2), (0, 1, "", 0)], choice(MOVE, ONE, NOTHING))
        self.assert_machine(3, [(0, 2, "rs", 1)], row(MOVE, choice()))
        self.assert_machine(3, [(0, 2, "s", 2), (2, 1, "s", 2), (0, 1, "rs", 1)],
            choice(row(ONE, ONE), choice(choice(), MOVE)))

    def test_repeats(self):
        self.assert_machine(3, [(0, 2, "", 0), (2, 2, "", 0), (2, 1, "", 0)], ("repeat", NOTHING))
        self.assert_machine(3, [(0, 2, "", 0), (2, 1, "", 0)], ("repeat", choice()))
        self.assert_machine(
            4, [(0, 2, "", 0), (2, 3, "", 0), (3, 3, "s", 2), (3, 2, "", 0), (2, 1, "", 0)], ("repeat", ("repeat", ONE))
        )
        self.assert_machine(
            4, [(0, 2, "", 0), (2, 3, "s", 2), (3, 2, "rs", 1), (2, 1, "", 0)], ("repeat", row(ONE, MOVE))
        )
        self.assert_machine(
            3, [(0, 2, "", 0), (2, 2, "s", 2), (2, 2, "rs", 1), (2, 1, "", 0)], ("repeat", choice(ONE, MOVE))
        )
        self.assert_machine(
            5,
            [(0, 3, "", 0), (3, 3, "s", 2), (3, 2, "", 0), (2, 4, "", 0), (4, 4, "rs", 1), (4, 1, "", 0)],
            row(("repeat", ONE), ("repeat", MOVE)),
        )

    def test_parts(self):
        parts = {"a": ONE, "b": row(("part", "a"), MOVE), "c": choice(("part", "b"), ("part", "a"))}
        self.assert_machine(2, [(0, 1, "s", 2)], ("part", "a"), parts)
        self.assert_machine(3, [(0, 2, "s", 2), (2, 1, "rs", 1)], ("part", "b"), parts)
        self.assert_machine(3, [(0, 2, "s", 2), (2, 1, "rs", 1), (0, 1, "s", 2)], ("part", "c"), parts)
        self.assert_machine(
            5, [(0, 3, "s", 2), (3, 2, "rs", 1), (2, 4, "s", 2), (4, 1, "rs", 1)], row(("part", "b"), ("part", "b")),
            parts
        )

    def test_drawn_programs(self):
        draw = random.Random(9)
        made = 0
        for _ in range(1200):
            parts = drawn_parts(draw, draw.randint(0, 4))
            program = drawn_program(draw, sorted(parts))
            places, edges = plain_edges(program, parts) if plain_fault(program, parts) is None else (0, [])
            if places and places <= 12 and len(edges) <= 26 and places + sum(max(len(edge[2]) - 1,
                    0) for edge in edges) <= 20:
                self.assert_machine(places, edges, program, parts)
                made += 1
        self.assertGreater(made, 300)

    def test_machines_are_of_their_own(self):
        one, other = compile_program(MOVE, {}), compile_program(MOVE, {})
        self.assertEqual(one, other)
        one.remove_edge(0)
        self.assertEqual(other.edges(), {0: (0, 1, "rs", 1)})
        self.assertEqual(compile_program(MOVE, {}).edges(), {0: (0, 1, "rs", 1)})


class Limits(CompileCase):
    def test_12_and_13_places(self):
        # A row of 8 makes 7 places, one of 4 within it 3 more.
        self.assertEqual(len(compile_program(row(*[NOTHING] * 7, row(*[NOTHING] * 4)), {})), 12)
        self.assert_limit(12, row(*[NOTHING] * 7, row(*[NOTHING] * 5)))
        self.assertEqual(len(compile_program(row(*[NOTHING] * 5, *[("repeat", NOTHING)] * 3), {})), 12)
        self.assert_limit(12, row(*[NOTHING] * 4, *[("repeat", NOTHING)] * 4))
        eight, three = choice(*[("repeat", choice())] * 8), [("repeat", choice())] * 3
        self.assertEqual(len(compile_program(choice(eight, *three[:2]), {})), 12)
        self.assert_limit(12, choice(eight, *three))

    def test_26_and_27_edges(self):
        three = choice(*[NOTHING] * 8)
        self.assertEqual(len(compile_program(choice(three, three, three, NOTHING, NOTHING), {}).edges()), 26)
        self.assert_limit(26, choice(three, three, three, NOTHING, NOTHING, NOTHING))

    def test_20_and_21_states(self):
        # 4 places, and 7 + 7 + 2 inner states.
        long, short = ("move", "srsrsrsr", 0), ("move", "srs", 0)
        machine = compile_program(choice(row(long, long, short), NOTHING), {})
        self.assertEqual(len(machine.system(0).states), 20)
        self.assert_limit(20, choice(row(long, long, short), ("move", "sr", 0)))
        self.assert_limit(20, choice(row(long, long, ("move", "srsr", 0)), NOTHING))

    def test_places_count_before_edges_and_states(self):
        long = ("move", "srsrsrsr", 0)
        many = choice(*[NOTHING] * 8)
        self.assert_limit(12, row(*[many] * 4, row(*[NOTHING] * 8), NOTHING, NOTHING))
        self.assert_limit(12, row(long, long, long, *[NOTHING] * 4, row(*[NOTHING] * 8)))

    def test_the_first_edge_that_is_too_much(self):
        long, many = ("move", "srsrsrsr", 0), choice(*[NOTHING] * 8)
        # The states are too many at an early edge, the edges at a late one.
        self.assert_limit(20, choice(long, long, long, many, many, many))
        self.assert_limit(26, choice(many, many, many, NOTHING, NOTHING, NOTHING, choice(long, long, long)))
        self.assert_limit(26, choice(many, many, many, NOTHING, NOTHING, choice(long, long, long)))
        self.assert_limit(26, choice(many, many, many, choice(long, long, ("move", "srsrsrs", 0))))
        self.assert_limit(20, choice(many, many, NOTHING, choice(long, long, ("move", "srsrsrs", 0))))
        # Places that later programs make count for the first edge, too.
        self.assert_limit(20, row(choice(long, long), row(*[NOTHING] * 6)))

    def test_invalid_programs_come_first(self):
        many = row(*[NOTHING] * 8)
        self.assert_refuses(InvalidProgram, "path", (2,), compile_program, row(many, many, None), {})
        self.assert_refuses(InvalidProgram, "path", (), compile_program, row(*[many] * 8), {})
        self.assert_refuses(InvalidProgram, "path", ("a",), compile_program, row(many, many), {"a": 0})
        self.assert_limit(12, row(many, many), {"a": many})

    def test_without_delay(self):
        parts = {"a": choice(*[NOTHING] * 8), "b": ("part", "a")}
        with within(2):
            for _ in range(50):
                self.assert_limit(26, choice(*[("part", "b")] * 5), parts)


if __name__ == "__main__":
    unittest.main()
