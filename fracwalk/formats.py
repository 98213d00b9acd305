"""Machines and values as texts."""

from fracwalk.errors import LimitExceeded, NotAValue, NotAWord, NotReduced, ParseError, UnknownPlace
from fracwalk.machines import Machine, machine_of
from fracwalk.moves import require_value

MOST_DIGITS = 60
EMPTY_WORD = "-"


def format_machine(machine):
    """Return the lines of a machine."""
    lines = [f"places {len(machine)}"]
    for number, (start, end, word, cost) in machine.edges().items():
        shown = EMPTY_WORD if word == "" else word
        lines.append(f"edge {number} {start} {end} {shown} {cost}")
    lines.append(f"next {machine.next_number()}")
    return "".join([line + "\n" for line in lines])


def format_value(value):
    """Return the text of a value."""
    p, q = value
    return f"{p}/{q}"


def parse_machine(text):
    """Return the machine of a text; raise ParseError for any other text."""
    *lines, rest = text.split("\n")
    machine = None
    finished = False
    for index, line in enumerate(lines):
        words = line.split(" ")
        machine = None if finished else _machine_behind(machine, words)
        if machine is None:
            raise ParseError(index)
        finished = words[0] == "next"
    if not finished or rest != "":
        raise ParseError(len(lines))
    return machine


def parse_value(text):
    """Return the value of a text; raise ParseError for any other text."""
    over, _, under = text.partition("/")
    p, q = _integer_of(over.removeprefix("-")), _integer_of(under)
    if p is None or q is None or (p == 0 and over != "0"):
        raise ParseError(0)
    try:
        return require_value((-p if over.startswith("-") else p, q))
    except NotAValue:
        raise ParseError(0) from None


def _machine_behind(machine, words):
    """Return the machine behind one more line, or None if the line does not fit."""
    if machine is None:
        return _empty_machine(words)
    if words[0] == "edge" and len(words) == 6:
        return _machine_with_edge(machine, words)
    if words[0] == "next" and len(words) == 2:
        number = _integer_of(words[1])
        if number is not None and number >= machine.next_number():
            return machine_of(len(machine), machine.edges(), number)
    return None


def _empty_machine(words):
    """Return the machine behind a first line, or None."""
    if len(words) != 2 or words[0] != "places":
        return None
    try:
        return Machine(_integer_of(words[1]))
    except LimitExceeded:
        return None


def _machine_with_edge(machine, words):
    """Return the machine with one more edge, or None."""
    number, start, end, cost = [_integer_of(words[at]) for at in (1, 2, 3, 5)]
    word = words[4]
    if number is None or number < machine.next_number() or word == "":
        return None
    longer = machine_of(len(machine), machine.edges(), number)
    try:
        longer.add_edge(start, end, "" if word == EMPTY_WORD else word, cost)
    except (UnknownPlace, NotAWord, NotReduced, LimitExceeded):
        return None
    return longer


def _integer_of(text):
    """Return the integer from 0 on that a text is, without leading zeros, or None."""
    if not 1 <= len(text) <= MOST_DIGITS or not all([sign in "0123456789" for sign in text]):
        return None
    if text[0] == "0" and len(text) > 1:
        return None
    return int(text)
