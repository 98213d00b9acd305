"""Point 18: which programs are right, the path to the first one at fault, and the limits."""

import copy
import random
import unittest

from fracwalk.errors import InvalidProgram
from fracwalk.programs import compile_program, require_program
from tests.helpers import STRANGE_VALUES, Case, within
from tests.program_helpers import drawn_parts, drawn_program, plain_fault, size
from tests.variations import varied

MOVE = ("move", "rs", 1)
NOTHING = ("row", ())


def row(*programs):
    return ("row", programs)


def choice(*programs):
    return ("choice", programs)


class ProgramCase(Case):
    def assert_good(self, program, parts):
        before = copy.deepcopy((program, parts))
        self.assertIsNone(require_program(program, parts))
        self.assertIsNone(plain_fault(program, parts))
        self.assertEqual((program, parts), before)

    def assert_fault(self, path, program, parts):
        error = self.assert_refuses(InvalidProgram, "path", path, require_program, program, parts)
        self.assertEqual([type(step) for step in error.path], [type(step) for step in path])
        self.assert_refuses(InvalidProgram, "path", path, compile_program, program, parts)


class GoodPrograms(ProgramCase):
    def test_each_form(self):
        for program in [
            MOVE, ("move", "", 0), ("move", "srsrsrsr", 9), row(), row(MOVE), row(MOVE, MOVE), choice(), choice(MOVE),
            choice(MOVE, NOTHING), ("repeat", MOVE), ("repeat", NOTHING), ("repeat", choice()),
            ("repeat", ("repeat", MOVE)),
        ]:
            self.assert_good(program, {})
            self.assert_good(program, {"a": program})
            self.assert_good(("part", "a"), {"a": program})
            self.assert_good(row(("part", "a"), program), {"a": program, "b": ("part", "a")})

    def test_names(self):
        for name in ["", "a", "part", "move", "0", "a b", "(", "\n", "s" * 500]:
            self.assert_good(("part", name), {name: MOVE})
        many = {f"name {at}": MOVE for at in range(60)}
        self.assert_good(("part", "name 59"), many)
        self.assert_good(MOVE, many)

    def test_parts_that_are_used_several_times(self):
        parts = {"a": MOVE, "b": row(("part", "a"), ("part", "a")), "c": choice(("part", "b"), ("part", "a"),
                ("part", "b"))}
        self.assert_good(("part", "c"), parts)
        self.assert_good(row(("part", "a"), ("part", "c")), parts)
        self.assert_good(("repeat", ("part", "b")), parts)


class Faults(ProgramCase):
    def test_parts_that_are_no_dict_of_strings(self):
        for parts in [
            None, (), [], 0, True, "a", (("a", MOVE),), [("a", MOVE)], {0: MOVE}, {None: MOVE}, {True: MOVE},
            {("a",): MOVE},
            {"a": MOVE, 1: MOVE}, {1: 2, "a": ("part", "b")},
        ]:
            self.assert_fault((), MOVE, parts)
            self.assert_fault((), None, parts)
            self.assert_fault((), row(MOVE, ("part", "x")), parts)

    def test_values_that_are_no_programs(self):
        wrong = [value for value in STRANGE_VALUES] + [
            ("move",), ("move", "rs"), ("move", "rs", 1, 1), ["move", "rs", 1], ("Move", "rs", 1), (None, "rs", 1),
            (("move",), "rs", 1), ("move", "rs", 10), ("move", "rs", -1), ("move", "rs", True), ("move", "rs", None),
            ("move", "rs", "1"), ("move", "rs", 10**59), ("move", "ss", 1), ("move", "x", 1), ("move", None, 1),
            ("move", ["rs"], 1),
            ("move", "srsrsrsrs", 1), ("move", "rr", 1), ("move", 1, "rs"), ("row",), ("row", [MOVE]), ("row", None),
            ("row", (), ()), ("row", {}), ("row", MOVE, MOVE), ("choice",), ("choice", [MOVE]), ("choice", "rs"),
            ("choice", (MOVE,), 1), ("repeat",), ("repeat", MOVE, MOVE), ("part",), ("part", "a", "a"), ("part", None),
            ("part", ["a"]), ("part", 0), ("part", ("a",)), ("part", {}), ("part", True), ("part", "x"), ("part", "A"),
            ("other", MOVE),
            ("", ()), ("moves", "rs", 1), ["row", ()], {"row": ()}, ("rows", ()), "row",
        ]
        parts = {"a": MOVE, "b": choice(MOVE)}
        for program in wrong:
            self.assertEqual(plain_fault(program, parts), ())
            self.assert_fault((), program, parts)
            self.assert_fault((0,), row(program, MOVE), parts)
            self.assert_fault((1,), row(MOVE, program), parts)
            self.assert_fault((2,), choice(MOVE, ("part", "b"), program), parts)
            self.assert_fault((0,), ("repeat", program), parts)
            self.assert_fault(("c",), MOVE, {**parts, "c": program})
            self.assert_fault(("c",), ("part", "c"), {**parts, "c": program})
            self.assert_fault((1, "c", 0), row(("part", "a"), ("part", "c")), {**parts, "c": ("repeat", program)})

    def test_repeats_and_rows_stand_apart(self):
        # These are tuples of tuples, and programs all the same.
        self.assert_fault((0,), ("repeat", (MOVE,)), {})
        self.assert_fault((0,), ("row", ((),)), {})
        self.assert_fault((0,), ("row", ("row", ())), {})
        self.assert_fault((0,), ("row", MOVE), {})
        self.assert_fault((0,), ("choice", MOVE), {})
        self.assert_fault((0,), ("choice", ("part", "a")), {"a": MOVE})

    def test_8_and_9_elements(self):
        for make in (row, choice):
            self.assert_good(make(*[NOTHING] * 8), {})
            self.assert_fault((), make(*[NOTHING] * 9), {})
            self.assert_fault((), make(*[None] * 9), {})
            self.assert_fault((7,), make(*[NOTHING] * 7, make(*[NOTHING] * 9)), {})
            self.assert_fault(("a",), MOVE, {"a": make(*[NOTHING] * 9)})

    def test_the_first_of_several(self):
        wrong = ("move", "ss", 1)
        self.assert_fault((0,), row(wrong, wrong), {"a": wrong})
        self.assert_fault((0, 1), row(row(MOVE, wrong), wrong), {"a": wrong})
        self.assert_fault((1, 0), row(MOVE, ("repeat", wrong), wrong), {"a": wrong})
        self.assert_fault((0, "b", 1), row(("part", "b"), wrong), {"a": wrong, "b": row(MOVE, wrong)})
        self.assert_fault((1,), row(("part", "b"), wrong), {"a": wrong, "b": row(MOVE, MOVE)})
        self.assert_fault(("a",), MOVE, {"c": wrong, "a": wrong, "b": wrong})
        self.assert_fault(("B",), MOVE, {"b": wrong, "a": MOVE, "B": wrong})
        self.assert_fault(("",), MOVE, {"b": wrong, "": wrong})
        self.assert_fault(("a", "b", 0), MOVE, {"a": ("part", "b"), "b": ("repeat", wrong)})
        self.assert_fault(("a10",), MOVE, {"a9": wrong, "a10": wrong})

    def test_unknown_parts(self):
        self.assert_fault((), ("part", "x"), {})
        self.assert_fault((0, 1), ("repeat", row(MOVE, ("part", "x"))), {"y": MOVE})
        self.assert_fault(("y",), MOVE, {"y": ("part", "x")})
        self.assert_fault(("y", 2), choice(), {"y": choice(MOVE, MOVE, ("part", "x"))})
        self.assert_fault((0, "y"), ("repeat", ("part", "y")), {"y": ("part", "x")})

    def test_parts_within_themselves(self):
        self.assert_fault(("a",), MOVE, {"a": ("part", "a")})
        self.assert_fault(("a",), ("part", "a"), {"a": ("part", "a")})
        self.assert_fault((0, "a", 1), ("repeat", ("part", "a")), {"a": row(MOVE, ("part", "a"))})
        self.assert_fault(("a", 0), choice(), {"a": choice(("part", "a"))})

    def test_parts_within_themselves_through_others(self):
        parts = {"a": row(MOVE, ("part", "b")), "b": ("repeat", ("part", "a"))}
        self.assert_fault(("a", 1, "b", 0), ("part", "a"), parts)
        self.assert_fault(("b", 0, "a", 1), ("part", "b"), parts)
        self.assert_fault(("a", 1, "b", 0), MOVE, parts)
        self.assert_fault((0, "b", 0, "a", 1), choice(("part", "b")), parts)
        ring = {name: ("part", following) for name, following in zip("abcdef", "bcdefa")}
        self.assert_fault(tuple("abcdef"), MOVE, ring)
        self.assert_fault(tuple("defabc"), ("part", "d"), ring)
        # Part x leads into the ring, but is not within itself.
        self.assert_fault(("x", "c", "d", "e", "f", "a", "b"), ("part", "x"), {**ring, "x": ("part", "c")})
        self.assert_fault(tuple("abcdef"), MOVE, {**ring, "x": ("part", "c")})

    def test_a_part_is_looked_through_before_what_stands_on_its_right(self):
        parts = {"a": row(MOVE, MOVE), "b": row(("part", "a"), ("part", "x")), "c": ("part", "b")}
        self.assert_fault((0, "c", "b", 1), row(("part", "c"), ("part", "y")), parts)
        self.assert_fault((1, "b", 1), row(("part", "a"), ("part", "b")), parts)
        self.assert_fault(("b", 1), ("part", "a"), parts)

    def test_faults_beside_limits(self):
        # Limits count last, wherever the fault stands.
        deep = MOVE
        for _ in range(9):
            deep = ("repeat", deep)
        many = row(*[row(*[NOTHING] * 8)] * 8)
        for program in (deep, many, row(row(*[MOVE] * 8), MOVE)):
            self.assert_fault((), program, {})
            self.assert_fault(("a",), program, {"a": None})
            self.assert_fault((1,), row(program, None), {"a": None})
            self.assert_good(MOVE, {"a": program})

    def test_drawn_programs(self):
        draw = random.Random(5)
        good = bad = 0
        for _ in range(1500):
            parts = drawn_parts(draw, draw.randint(0, 4))
            program = drawn_program(draw, sorted(parts))
            if draw.random() < 0.6:
                if draw.random() < 0.5:
                    program = varied(program, draw)
                else:
                    parts = varied(parts, draw)
            expected = plain_fault(program, parts)
            if expected is None:
                self.assert_good(program, parts)
                good += 1
            else:
                self.assert_fault(expected, program, parts)
                bad += 1
        self.assertGreater(good, 300)
        self.assertGreater(bad, 300)

    def test_drawn_parts_in_rings(self):
        draw = random.Random(6)
        for _ in range(400):
            names = ["a", "b", "c", "d"][: draw.randint(1, 4)]
            parts = {name: drawn_program(draw, names, 3) for name in names}
            expected = plain_fault(("part", "a"), parts)
            if expected is None:
                self.assert_good(("part", "a"), parts)
            else:
                self.assert_fault(expected, ("part", "a"), parts)


class Limits(ProgramCase):
    def test_60_and_61_programs(self):
        # A row of 7 rows of 7 is 57 programs.
        rows = [row(*[NOTHING] * 7)] * 7
        self.assert_good(row(*rows, row(NOTHING, NOTHING)), {})
        self.assertEqual(size(row(*rows, row(NOTHING, NOTHING)), {})[0], 60)
        self.assert_fault((), row(*rows, row(NOTHING, NOTHING, NOTHING)), {})
        self.assert_fault((), row(*rows, row(NOTHING, choice(NOTHING))), {})
        # A use of a part is one itself, beside what it copies.
        self.assert_good(row(*rows, ("part", "a")), {"a": choice(NOTHING)})
        self.assert_fault((), row(*rows, ("part", "a")), {"a": choice(NOTHING, NOTHING)})
        self.assert_good(row(*rows, ("part", "a")), {"a": ("part", "b"), "b": MOVE})
        self.assert_fault((), row(*rows, ("part", "a")), {"a": ("part", "b"), "b": ("part", "c"), "c": MOVE})
        self.assert_fault((), row(*rows, ("repeat", ("repeat", ("repeat", NOTHING)))), {})

    def test_8_and_9_moves(self):
        for make in (row, choice):
            self.assert_good(make(*[MOVE] * 8), {})
            self.assert_fault((), make(make(*[MOVE] * 8), MOVE), {})
            self.assert_fault((), make(*[MOVE] * 7, ("part", "a")), {"a": make(MOVE, MOVE)})
            self.assert_good(make(*[MOVE] * 6, ("part", "a")), {"a": make(MOVE, MOVE), "b": make(*[MOVE] * 8)})
            self.assert_fault((), make(*[("part", "a")] * 5), {"a": make(MOVE, MOVE)})
            self.assert_good(make(*[("part", "a")] * 4), {"a": make(MOVE, MOVE)})

    def test_8_and_9_deep(self):
        for ground, depth in [(MOVE, 1), (NOTHING, 1), (choice(), 1), (row(MOVE), 2), (("part", "a"), 2),
            (("part", "b"), 3)]:
            parts = {"a": NOTHING, "b": ("repeat", MOVE)}
            for make in (row, choice, lambda inner: ("repeat", inner), lambda inner: row(NOTHING, inner)):
                program = ground
                for _ in range(8 - depth):
                    program = make(program)
                self.assertEqual(size(program, parts)[2], 8)
                self.assert_good(program, parts)
                self.assert_fault((), make(program), parts)
                self.assert_fault((), ("part", "c"), {**parts, "c": program})
                self.assert_good(MOVE, {**parts, "c": make(program)})

    def test_parts_that_no_one_uses_are_not_measured(self):
        big = row(*[row(*[MOVE] * 8)] * 8)
        self.assert_good(MOVE, {"a": big, "b": ("repeat", ("part", "a"))})
        self.assert_fault((), ("part", "b"), {"a": big, "b": ("repeat", ("part", "a"))})

    def test_exponentially_many_copies(self):
        for ground in (MOVE, NOTHING, choice()):
            parts = {"part 0": ground}
            for at in range(1, 60):
                parts[f"part {at}"] = row(*[("part", f"part {at - 1}")] * 8)
            with within(2):
                self.assert_refuses(InvalidProgram, "path", (), require_program, ("part", "part 59"), parts)
                self.assert_refuses(InvalidProgram, "path", (), compile_program, ("part", "part 59"), parts)
                self.assertIsNone(require_program(("part", "part 0"), parts))
                self.assertIsNone(require_program(("part", "part 1"), {**parts,
                            "part 1": row(*[("part", "part 0")] * 4)}))
            with within(2):
                path = tuple(name for at in range(59, 0, -1) for name in (f"part {at}", 0)) + ("part 0",)
                self.assert_refuses(
                    InvalidProgram, "path", path, require_program, ("part", "part 59"), {**parts, "part 0": None}
                )

    def test_the_limit_is_measured_with_all_parts_copied(self):
        parts = {"a": MOVE, "b": row(("part", "a"), ("part", "a")), "c": row(("part", "b"), ("part", "b"))}
        self.assertEqual(size(("part", "c"), parts), (14, 4, 6))
        self.assert_good(row(("part", "c"), ("part", "c")), parts)
        self.assert_fault((), row(("part", "c"), ("part", "c"), ("part", "a")), parts)

    def test_large_and_deep_values(self):
        deep = MOVE
        for _ in range(13):
            deep = ("repeat", deep)
        parts = {"a": deep}
        for name, before in zip("bcdefghijklmnopqrstuvwxyz", "abcdefghijklmnopqrstuvwxy"):
            inner = ("part", before)
            for _ in range(13):
                inner = ("repeat", inner)
            parts[name] = inner
        more = {name * 2: inner for name, inner in parts.items()}
        more = {**parts, **{name: rebuilt(inner) for name, inner in more.items()}, "aa": wrapped(("part", "z"))}
        with within(3):
            self.assert_fault((), ("part", "z"), parts)
            self.assert_fault((), ("part", "zz"), more)
            self.assert_good(MOVE, more)
            long = ()
            for name in "zyxwvutsrqponmlkjihgfedcba":
                long += (name,) + (0,) * 13
            self.assert_fault(long, ("part", "z"), {**parts, "a": wrapped(None)})
        wide = [row(*[row(*[row(*[choice(*[MOVE] * 8)] * 8)] * 8)] * 3)]
        with within(3):
            self.assert_fault((), wide[0], {"a": wide[0]})
            self.assert_fault((), tuple(range(19999)), {})
            self.assert_fault(("a",), MOVE, {"a": [0] * 19999})


def wrapped(program):
    """A program within 13 repeats."""
    for _ in range(13):
        program = ("repeat", program)
    return program


def rebuilt(program):
    """The same program, with the names of its parts doubled."""
    if program[0] == "part":
        return ("part", program[1] * 2)
    return program if program[0] == "move" else ("repeat", rebuilt(program[1]))


if __name__ == "__main__":
    unittest.main()
