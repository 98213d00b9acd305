"""Programs with choices, repetitions and parts, their machines, and their traces."""

from fracwalk.errors import InvalidProgram
from fracwalk.layouts import Layout, edges_along, trace_along
from fracwalk.machines import HIGHEST_COST, MOST_LETTERS, Machine
from fracwalk.moves import is_integer
from fracwalk.words import is_word, reduce_word

MOST_TOGETHER = 8
MOST_PROGRAMS = 60
MOST_MOVES = 8
DEEPEST = 8


def require_program(program, parts):
    """Raise InvalidProgram if the program or the parts are not as they have to be."""
    if not isinstance(parts, dict) or not all([isinstance(name, str) for name in parts]):
        raise InvalidProgram(())
    inspection = Inspection(parts)
    inspection.look_through([((), program)])
    for name in sorted(parts):
        inspection.look_through(inspection.entered(name, ()))
    sizes = {}
    for name in inspection.finished:
        sizes[name] = _size(parts[name], sizes)
    programs, moves, depth = _size(program, sizes)
    if programs > MOST_PROGRAMS or moves > MOST_MOVES or depth > DEEPEST:
        raise InvalidProgram(())


def compile_program(program, parts):
    """Return the machine of a program, with the start 0 and the end 1."""
    require_program(program, parts)
    layout = Layout(program, parts)
    machine = Machine(layout.places)
    for start, end, word, cost in layout.rows:
        machine.add_edge(start, end, word, cost)
    return machine


def trace_word(program, parts, trace):
    """Return (word, cost) of a trace of a program."""
    moves = _moves_along(program, parts, trace)
    return (reduce_word("".join([word for word, _ in moves])), sum([cost for _, cost in moves]))


def route_of_trace(program, parts, trace):
    """Return the tuple of the edges of a trace's route."""
    return tuple(edges_along(Layout(program, parts).whole, trace))


def trace_of_route(program, parts, route):
    """Return a trace whose route it is, or None if it is no route from place 0 to place 1."""
    layout = Layout(program, parts)
    if not layout.is_route(route):
        return None
    trace, _ = trace_along(layout.whole, route, 0)
    return trace


class Inspection:
    """Looks through programs, and once through each part, in the order in which faults count.

    A part that is finished has no fault wherever it is used again: it leads to no part that
    is not finished itself.
    """

    def __init__(self, parts):
        self.parts = parts
        self.around = {}
        self.finished = {}

    def look_through(self, waiting):
        """Raise InvalidProgram for the first fault in what waits; the last one that waits comes first.

        What waits are pairs (path, program), and (name, None) behind what stands within a part.
        """
        while waiting:
            path, program = waiting.pop()
            if isinstance(path, str):
                self.leave(path)
            elif not self.is_good(program):
                raise InvalidProgram(path)
            elif program[0] == "part":
                waiting.extend(self.entered(program[1], path))
            else:
                within = list(enumerate(_programs_within(program)))
                waiting.extend([(path + (at,), inner) for at, inner in within[::-1]])

    def entered(self, name, path):
        """Return what has to be looked through for a part, the last one first."""
        if name in self.finished:
            return []
        self.around[name] = True
        return [(name, None), (path + (name,), self.parts[name])]

    def leave(self, name):
        """Keep that a part has no fault."""
        del self.around[name]
        self.finished[name] = True

    def is_good(self, program):
        """Tell whether any value is a program, whatever stands within it, that uses a part it may use."""
        if not isinstance(program, tuple) or len(program) < 2:
            return False
        form = program[0]
        if form == "move":
            return len(program) == 3 and _is_edge_word(program[1]) and _is_edge_cost(program[2])
        if len(program) != 2:
            return False
        if form in ("row", "choice"):
            return isinstance(program[1], tuple) and len(program[1]) <= MOST_TOGETHER
        if form == "part":
            name = program[1]
            return isinstance(name, str) and name in self.parts and name not in self.around
        return form == "repeat"


def _is_edge_word(value):
    """Tell whether any value is a word that an edge may have."""
    return is_word(value) and len(value) <= MOST_LETTERS


def _is_edge_cost(value):
    """Tell whether any value is a cost that an edge may have."""
    return is_integer(value) and 0 <= value <= HIGHEST_COST


def _programs_within(program):
    """Return the programs that stand within a program."""
    if program[0] in ("row", "choice"):
        return list(program[1])
    return [program[1]] if program[0] == "repeat" else []


def _size(program, sizes):
    """Return (programs, moves, depth) with all parts copied, given the sizes of the parts that it uses."""
    if program[0] == "move":
        return (1, 1, 1)
    if program[0] == "part":
        inner = [sizes[program[1]]]
    else:
        inner = [_size(within, sizes) for within in _programs_within(program)]
    return (
        1 + sum([size[0] for size in inner]),
        sum([size[1] for size in inner]),
        1 + max([size[2] for size in inner], default=0),
    )


def _moves_along(program, parts, trace):
    """Return the list of the moves (word, cost) of a trace."""
    form = program[0]
    if form == "move":
        return [(program[1], program[2])]
    if form == "row":
        return [move for within, way in zip(program[1], trace[1]) for move in _moves_along(within, parts, way)]
    if form == "choice":
        return _moves_along(program[1][trace[1]], parts, trace[2])
    if form == "repeat":
        return [move for way in trace[1] for move in _moves_along(program[1], parts, way)]
    return _moves_along(parts[program[1]], parts, trace[1])
