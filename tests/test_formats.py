"""Point 22: machines and values as texts, and the first line that does not fit."""

import math
import random
import re
import unittest

from fracwalk.errors import ParseError
from fracwalk.formats import format_machine, format_value, parse_machine, parse_value
from fracwalk.machines import Machine, machine_of
from tests.checkers import is_reduced_word
from tests.helpers import small_values, within
from tests.machine_helpers import MachineCase, full_machine, machine_with, snapshot, some_machines, two_places

INTEGER = re.compile("0|[1-9][0-9]{0,59}")
NINES = "9" * 60
ONE_MORE = "1" + "0" * 60


def fault_of(text):
    """The line of ParseError, or None, by looking at each line beside all of those before it."""
    lines = text.split("\n")[:-1]
    for index, line in enumerate(lines):
        if not fits(line, lines[:index]):
            return index
    whole = bool(lines) and lines[-1].startswith("next") and text.endswith("\n")
    return None if whole else len(lines)


def fits(line, before):
    if not before:
        match = re.fullmatch("places (.*)", line)
        return bool(match and INTEGER.fullmatch(match[1]) and 1 <= int(match[1]) <= 12)
    if before[-1].startswith("next"):
        return False
    places = int(before[0].split(" ")[1])
    edges = [edge.split(" ") for edge in before[1:]]
    highest = max([int(edge[1]) for edge in edges], default=-1)
    parts = line.split(" ")
    if parts[0] == "next":
        return len(parts) == 2 and bool(INTEGER.fullmatch(parts[1])) and int(parts[1]) > highest
    if parts[0] != "edge" or len(parts) != 6:
        return False
    if not all(INTEGER.fullmatch(part) for part in (parts[1], parts[2], parts[3],
            parts[5])) or int(parts[1]) <= highest:
        return False
    word = "" if parts[4] == "-" else parts[4]
    if parts[4] == "" or not is_reduced_word(word) or len(word) > 8:
        return False
    states = places + sum(max(len(edge[4]) - 1, 0) for edge in edges + [parts])
    return max(int(parts[2]), int(parts[3])) < places and int(parts[5]) <= 9 and len(edges) < 26 and states <= 20


class FormatCase(MachineCase):
    def assert_text(self, text, machine):
        before = snapshot(machine)
        self.assertEqual(format_machine(machine), text)
        self.assertEqual(snapshot(machine), before)
        parsed = parse_machine(text)
        self.assertIsInstance(parsed, Machine)
        self.assertEqual(snapshot(parsed), before)
        self.assertIsNone(fault_of(text))

    def assert_fault(self, line, text):
        self.assertEqual(fault_of(text), line)
        self.assert_refuses(ParseError, "line", line, parse_machine, text)

    def assert_as_told(self, text):
        """The text is parsed, or refused at the line that the test finds."""
        line = fault_of(text)
        if line is None:
            self.assertEqual(format_machine(parse_machine(text)), text)
        else:
            self.assert_refuses(ParseError, "line", line, parse_machine, text)
        return line


class Machines(FormatCase):
    def test_example(self):
        machine = Machine(1)
        machine.add_edge(0, 0, "rs", 1)
        self.assertEqual(format_machine(machine), "places 1\nedge 0 0 0 rs 1\nnext 1\n")
        self.assert_text("places 1\nedge 0 0 0 rs 1\nnext 1\n", machine)

    def test_without_edges(self):
        for places in range(1, 13):
            self.assert_text(f"places {places}\nnext 0\n", Machine(places))
            self.assert_text(f"places {places}\nnext 5\n", machine_of(places, {}, 5))
            self.assert_text(f"places {places}\nnext {NINES}\n", machine_of(places, {}, 10**60 - 1))

    def test_gaps_among_the_numbers(self):
        machine = two_places()
        machine.add_edge(1, 1, "", 9)
        machine.add_edge(0, 1, "srsRsrsR", 0)
        machine.remove_edge(0)
        machine.remove_edge(2)
        self.assert_text("places 2\nedge 1 1 0 sR 1\nedge 3 0 1 srsRsrsR 0\nnext 4\n", machine)
        machine.add_edge(0, 0, "", 5)
        machine.remove_edge(4)
        self.assert_text("places 2\nedge 1 1 0 sR 1\nedge 3 0 1 srsRsrsR 0\nnext 5\n", machine)

    def test_large_numbers(self):
        edges = {7: (0, 0, "s", 1), 10**59: (0, 0, "", 0), 10**60 - 2: (0, 0, "r", 9)}
        text = f"places 1\nedge 7 0 0 s 1\nedge {10**59} 0 0 - 0\nedge {10**60 - 2} 0 0 r 9\nnext {NINES}\n"
        self.assert_text(text, machine_of(1, edges, 10**60 - 1))

    def test_at_the_limits(self):
        machine = full_machine()
        self.assertEqual((len(machine), len(machine.edges()), len(machine.system(0).states)), (12, 26, 20))
        self.assert_text(format_machine(machine), machine)
        self.assert_text("places 1\nedge 0 0 0 srsrsrsr 9\nedge 1 0 0 RsRsRsRs 0\nnext 2\n", machine_with(
            1, (0, 0, "srsrsrsr", 9), (0, 0, "RsRsRsRs", 0)))

    def test_there_and_back(self):
        for machine in some_machines(80, places=12, edges=12, longest=3, seed=91):
            text = format_machine(machine)
            self.assert_text(text, machine)
            self.assertEqual(parse_machine(text), machine)

    def test_parsed_machines_are_of_their_own(self):
        text = "places 2\nedge 3 0 1 rs 2\nnext 9\n"
        one, other = parse_machine(text), parse_machine(text)
        self.assertEqual(one.add_edge(0, 0, "s", 1), 9)
        one.remove_edge(3)
        self.assertEqual(snapshot(other), (2, [(3, (0, 1, "rs", 2))], 9))
        self.assertEqual(other.run_route(0, (3,)), (1, "rs", 2))
        other.reroute_edge(3, 1, 1)
        self.assertEqual(parse_machine(text).edges(), {3: (0, 1, "rs", 2)})


class Faults(FormatCase):
    def test_texts_that_end_too_early(self):
        for text, line in [
            ("", 0), ("places 1", 0), ("places 1\n", 1), ("places 1\nnext 0", 1), ("places 1\nedge 0 0 0 s 1\n", 2),
            ("places 1\nedge 0 0 0 s 1", 1), ("places 1\nedge 0 0 0 s 1\nnext 1", 2), ("places", 0), ("x", 0),
            ("places 1\nx", 1),
            (" ", 0), ("places 1\nedge 0 0 0 s 1\nnext 0", 2),
        ]:
            self.assert_fault(line, text)

    def test_nothing_fits_behind_next(self):
        good = "places 1\nnext 1\n"
        self.assert_text(good, machine_of(1, {}, 1))
        for more in ["\n", "next 1\n", "edge 1 0 0 s 1\n", " ", "x", "next 2", "\n\n", "places 1\nnext 1\n", "\r\n",
            "\t"]:
            self.assert_fault(2, good + more)

    def test_first_lines(self):
        for line in [
            "", "places", "places ", "places 0", "places 13", "places 01", "places +1", "places -1", "places 1 ",
            " places 1",
            "places  1", "Places 1", "place 1", "places 1 1", "places one", "places 1\r", "places\t1", "places 1.0",
            "places 1_0",
            "places \u0661", "places \u00b2", "places 1\u00a0", "places 1\x0b", f"places {ONE_MORE}",
            f"places {'1' * 15000}", "next 0",
            "edge 0 0 0 s 1", "places True", "places 0x1", "places 1e0", "places 00", "places -0", "places 1\x1c",
            "places \uff11",
        ]:
            self.assert_fault(0, line + "\nnext 0\n")
            self.assert_fault(0, line + "\nnext x\n")

    def test_edges(self):
        good = "edge 3 0 1 rs 2"
        self.assert_text(f"places 2\n{good}\nnext 4\n", machine_of(2, {3: (0, 1, "rs", 2)}, 4))
        for line in [
            "", "edge", "edge 3 0 1 rs", "edge 3 0 1 rs 2 ", " edge 3 0 1 rs 2", "edge  3 0 1 rs 2", "edge 3  0 1 rs 2",
            "edge 3 0 1  rs 2", "edge 3 0 1 rs  2", "edge 3 0 1  2", "edge 3 0 1 rs 2 2", "edge 03 0 1 rs 2",
            "edge 3 00 1 rs 2",
            "edge 3 0 01 rs 2", "edge 3 0 1 rs 02", "edge -3 0 1 rs 2", "edge +3 0 1 rs 2", "edge 3 -0 1 rs 2",
            "edge 3 +0 1 rs 2",
            "edge 3 0 1 rs +2", "edge 3 0 1 rs -2", "edge 3 2 1 rs 2", "edge 3 0 2 rs 2", "edge 3 0 1 rs 10",
            "edge 3 0 1 rx 2",
            "edge 3 0 1 ss 2", "edge 3 0 1 srsrsrsrs 2", "edge 3 0 1 -- 2", "edge 3 0 1 -s 2", "edge 3 0 1 s- 2",
            "edge 3 0 1 rs",
            "edge 3 0 1 '' 2", "Edge 3 0 1 rs 2", "edge 3 0 1 rs 2\r", "edge\t3 0 1 rs 2", "edge 3 0 1\trs 2",
            "edge 3.0 0 1 rs 2",
            "edge \u0663 0 1 rs 2", "edge 3 0 1 rs \u0662", "edge 3 0 \u00b9 rs 2", f"edge {ONE_MORE} 0 1 rs 2",
            f"edge 3 0 {ONE_MORE} rs 2",
            f"edge 3 {NINES} 1 rs 2", f"edge 3 0 1 rs {ONE_MORE}", "edge 3 0 1 RS 2", "edge x 0 1 rs 2",
            "edge 3 0 1 2 rs", "rs",
            "edge 3 0 1 rs 2 next 4", "places 2", "edge 3,0,1,rs,2", "edge 3 0 1 rs None", "edge 3 0 1 ",
            "edge 3 0 1 rs \n",
        ]:
            self.assert_fault(1, f"places 2\n{line}\nnext 4\n")
            self.assert_fault(2, f"places 2\nedge 1 0 1 r 0\n{line}\nnext 4\n")

    def test_numbers_ascend(self):
        for first, second, line in [(0, 0, 2), (1, 0, 2), (5, 4, 2), (5, 5, 2), (10, 9, 2), (9, 10, None), (0, 1, None),
            (0, 100, None)]:
            text = f"places 1\nedge {first} 0 0 s 1\nedge {second} 0 0 r 1\nnext 101\n"
            self.assertEqual(self.assert_as_told(text), line)

    def test_the_next_number_is_above_all(self):
        for number, following, fits_it in [(0, 0, False), (0, 1, True), (7, 7, False), (7, 8, True), (7, 80, True),
            (7, 0, False), (10, 9, False)]:
            text = f"places 1\nedge {number} 0 0 s 1\nnext {following}\n"
            self.assertEqual(self.assert_as_told(text), None if fits_it else 2)
        for line in [
            "next", "next ", "next 04", "next +4", "next -4", "next 4 ", " next 4", "next  4", "next 4 4", "Next 4",
            "next x", "next 4\r",
            f"next {ONE_MORE}", "next \u0664", "", "nex 4", "next 4.0", "next 4_0", "next\t4", "next -0",
        ]:
            self.assert_fault(2, f"places 1\nedge 3 0 0 s 1\n{line}\n")
            self.assert_fault(2, f"places 1\nedge 3 0 0 s 1\n{line}\nnext 4\n")

    def test_integers_of_60_and_61_digits(self):
        self.assert_fault(2, f"places 1\nedge {NINES} 0 0 s 1\nnext {ONE_MORE}\n")
        self.assert_fault(2, f"places 1\nedge {NINES} 0 0 s 1\nnext {NINES}\n")
        self.assertIsNone(self.assert_as_told(f"places 1\nedge {'8' * 60} 0 0 s 1\nnext {NINES}\n"))
        self.assert_fault(1, f"places 1\nedge {ONE_MORE} 0 0 s 1\nnext {ONE_MORE}\n")
        self.assert_fault(1, f"places 1\nnext {ONE_MORE}\n")
        self.assert_fault(1, f"places 1\nnext {'9' * 19000}\n")

    def test_limits_count_where_they_are_passed(self):
        edges = [f"edge {number} 0 0 - 0" for number in range(27)]
        self.assertIsNone(self.assert_as_told("\n".join(["places 1"] + edges[:26] + ["next 26"]) + "\n"))
        self.assert_fault(27, "\n".join(["places 1"] + edges + ["next 27"]) + "\n")
        self.assert_fault(27, "\n".join(["places 1"] + edges + ["x"]) + "\n")
        many = "\n".join(["places 12"] + [f"edge {number} 0 0 srsrs 0" for number in range(2)] + ["edge 2 0 0 s 0",
                "edge 5 0 0 sr 0"])
        self.assert_fault(4, many + "\nnext 6\n")
        self.assertEqual(self.assert_as_told(many.rpartition("\n")[0] + "\nnext 6\n"), None)
        self.assert_fault(1, "places 12\n" + "edge 0 0 0 srsrsrsrs 0\n" * 3)
        self.assertIsNone(self.assert_as_told("places 12\nedge 0 0 0 srsrsrsr 0\nedge 1 0 0 sr 0\nnext 2\n"))
        self.assert_fault(2, "places 12\nedge 0 0 0 srsrsrsr 0\nedge 1 0 0 srs 0\nnext 2\n")

    def test_other_line_ends(self):
        for end in ["\r\n", "\r", "\n\r", "\x0b", "\x0c", "\x1c", "\u2028", "\u0085", "\n\n"]:
            text = end.join(["places 1", "edge 0 0 0 s 1", "next 1", ""])
            self.assertIsNotNone(self.assert_as_told(text))
        self.assert_fault(0, "\nplaces 1\nnext 0\n")
        self.assert_fault(1, "places 1\n\nnext 0\n")

    def test_texts_with_something_changed(self):
        draw = random.Random(29)
        signs = "0123456789 -srR\nplacesedgenext+_.\r\t\u0661\u00b2"
        texts = [format_machine(machine) for machine in some_machines(25, places=4, edges=6, seed=93)]
        found = {}
        for _ in range(4000):
            text = draw.choice(texts)
            for _ in range(draw.choice([1, 1, 2])):
                text = self.changed(draw, text, signs)
            line = self.assert_as_told(text)
            found[line] = found.get(line, 0) + 1
        self.assertGreater(found[None], 100)
        self.assertGreater(len(found), 6)

    def changed(self, draw, text, signs):
        how = draw.randrange(9)
        at = draw.randint(0, max(len(text) - 1, 0))
        if how == 0:
            return text[:at] + draw.choice(signs) + text[at:]
        if how == 1:
            return text[:at] + text[at + 1 :]
        if how == 2:
            return text[:at] + draw.choice(signs) + text[at + 1 :]
        if how == 3:
            return text[:at] + text[at : at + 1] * 2 + text[at + 1 :]
        between = draw.choice([" ", "\n", "\n"])
        parts = text.split(between)
        one, other = draw.randrange(len(parts)), draw.randrange(len(parts))
        if how == 4:
            parts.pop(one)
        elif how == 5:
            parts.insert(one, parts[other])
        elif how == 6:
            parts[one], parts[other] = parts[other], parts[one]
        elif how == 7:
            parts[one] = parts[other]
        else:
            parts = parts[: one + 1]
        return between.join(parts)

    def test_long_texts_without_delay(self):
        with within(2):
            self.assert_fault(0, "9" * 20000)
            self.assert_fault(0, "\n" * 20000)
            self.assert_fault(1, "places 1\n" + " " * 19990)
            self.assert_fault(27, "places 1\n" + "".join(f"edge {number} 0 0 - 0\n" for number in range(1200)))
            self.assert_fault(1, "places 1\nedge 0 0 0 " + "sr" * 9000 + " 0\nnext 1\n")
            self.assert_fault(2, "places 1\nnext 0\n" + "next 0\n" * 2500)


class Values(FormatCase):
    def assert_value(self, text, value):
        self.assertEqual(format_value(value), text)
        self.assertEqual(parse_value(text), value)
        self.assertEqual([type(part) for part in parse_value(text)], [int, int])

    def assert_no_value(self, text):
        self.assert_refuses(ParseError, "line", 0, parse_value, text)

    def test_values(self):
        for text, value in [
            ("1/0", (1, 0)), ("0/1", (0, 1)), ("-3/2", (-3, 2)), ("1/1", (1, 1)), ("-1/1", (-1, 1)), ("10/7", (10, 7)),
            (f"{NINES}/1", (10**60 - 1, 1)), (f"-{NINES}/1", (1 - 10**60, 1)), (f"1/{NINES}", (1, 10**60 - 1)),
            (f"-{10**59 + 1}/{10**59}", (-(10**59) - 1, 10**59)),
        ]:
            self.assert_value(text, value)

    def test_there_and_back(self):
        for value in small_values(12):
            self.assert_value(f"{value[0]}/{value[1]}", value)

    def test_all_small_texts(self):
        for p in range(-7, 8):
            for q in range(-7, 8):
                if (p, q) == (1, 0) or (q > 0 and math.gcd(p, q) == 1):
                    self.assert_value(f"{p}/{q}", (p, q))
                else:
                    self.assert_no_value(f"{p}/{q}")

    def test_texts_that_are_none(self):
        for text in [
            "", "/", "1", "1/", "/1", "-/1", "1/-", "-", "--1/2", "-0/1", "+1/2", "1/+2", "1/-2", "-1/0", "2/0", "0/0",
            "-0/0", "2/4",
            "6/3", "0/2", "0/5", "01/2", "1/02", "00/1", "-01/2", "1/00", "1 /2", "1/ 2", " 1/2", "1/2 ", "1/2\n",
            "\n1/2", "1/2/3",
            "1//2", "/1/2", "1/2/", "1.0/2", "1/2.0", "1_0/3", "x/1", "1/x", "infinity", "1\\2", "\u0661/2", "1/\u0662",
            "\u00b2/3", "1/2\r",
            "- 1/2", "1/2-", "1-/2", f"{ONE_MORE}/1", f"-{ONE_MORE}/1", f"1/{ONE_MORE}", f"{ONE_MORE}/{ONE_MORE}",
            "9" * 20000, "9" * 9000 + "/" + "9" * 9000, "0x1/2", "1e0/2", "(1, 2)", "1:2", "\uff11/2", "\t1/2", "None",
        ]:
            self.assert_no_value(text)

    def test_texts_with_something_changed(self):
        draw = random.Random(37)
        for _ in range(3000):
            text = format_value(draw.choice(small_values(12)))
            at = draw.randint(0, len(text))
            sign = draw.choice("0123456789/- +\n\u0661x")
            text = draw.choice([text[:at] + sign + text[at:], text[:at] + sign + text[at + 1 :],
                    text[:at] + text[at + 1 :], text[::-1]])
            match = re.fullmatch("(-?)(0|[1-9][0-9]{0,59})/(0|[1-9][0-9]{0,59})", text)
            value = (int(match[1] + match[2]), int(match[3])) if match and match[1] + match[2] != "-0" else None
            if value is not None and (value == (1, 0) or (value[1] > 0 and math.gcd(*value) == 1)):
                self.assert_value(text, value)
            else:
                self.assert_no_value(text)


if __name__ == "__main__":
    unittest.main()
