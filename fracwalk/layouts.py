"""Layouts: the places and edges of a program, and which edges each of its programs has."""

from fracwalk.moves import is_integer


class Laid:
    """A program that is laid out: its edges are those from first on and below following."""

    def __init__(self, form, first, following, within):
        self.form = form
        self.first = first
        self.following = following
        self.within = within


class Layout:
    """A program laid out from place 0 to place 1; rows are the edges (start, end, word, cost), in order."""

    def __init__(self, program, parts):
        self.parts = parts
        self.places = 2
        self.rows = []
        self.whole = self.lay(program, 0, 1)

    def lay(self, program, start, end):
        """Lay out a program from a place to a place."""
        first = len(self.rows)
        within = self.lay_within(program, start, end)
        return Laid(program[0], first, len(self.rows), within)

    def lay_within(self, program, start, end):
        """Lay out what a program consists of, and return the list of the programs within it."""
        form = program[0]
        if form == "move":
            self.rows.append((start, end, program[1], program[2]))
            return []
        if form == "row":
            return self.lay_row(program[1], start, end)
        if form == "choice":
            return [self.lay(within, start, end) for within in program[1]]
        if form == "repeat":
            return self.lay_repeat(program[1], start, end)
        return [self.lay(self.parts[program[1]], start, end)]

    def lay_row(self, programs, start, end):
        """Lay out programs one after another, with a place between each two."""
        if not programs:
            self.rows.append((start, end, "", 0))
            return []
        between = [self.new_place() for _ in programs[1:]]
        along = zip(programs, [start] + between, between + [end])
        return [self.lay(program, begin, stop) for program, begin, stop in along]

    def lay_repeat(self, program, start, end):
        """Lay out a program from a new place to itself, with an edge there and an edge away."""
        middle = self.new_place()
        self.rows.append((start, middle, "", 0))
        within = [self.lay(program, middle, middle)]
        self.rows.append((middle, end, "", 0))
        return within

    def new_place(self):
        """Make a place and return its number."""
        place = self.places
        self.places = place + 1
        return place

    def is_route(self, route):
        """Tell whether edges lead from place 0 to place 1."""
        at = 0
        for number in route:
            if not is_integer(number) or not 0 <= number < len(self.rows):
                return False
            start, end = self.rows[number][:2]
            if start != at:
                return False
            at = end
        return at == 1


def edges_along(laid, trace):
    """Return the list of the edges of a trace's route."""
    # A choice with nothing within it has no trace, so that only a move or an empty row is left.
    if not laid.within:
        return [laid.first]
    if laid.form == "row":
        return [number for within, way in zip(laid.within, trace[1]) for number in edges_along(within, way)]
    if laid.form == "choice":
        return edges_along(laid.within[trace[1]], trace[2])
    if laid.form == "repeat":
        inner = [number for way in trace[1] for number in edges_along(laid.within[0], way)]
        return [laid.first] + inner + [laid.following - 1]
    return edges_along(laid.within[0], trace[1])


def trace_along(laid, route, at):
    """Return (trace, at): the trace of the edges of a route from an index on, and the index behind them."""
    if laid.form == "move":
        return (("move",), at + 1)
    if laid.form == "row":
        return _trace_of_row(laid, route, at)
    if laid.form == "choice":
        return _trace_of_choice(laid, route, at)
    if laid.form == "repeat":
        return _trace_of_repeat(laid, route, at)
    trace, at = trace_along(laid.within[0], route, at)
    return (("part", trace), at)


def _trace_of_row(laid, route, at):
    """Return (trace, at) of a row."""
    if not laid.within:
        return (("row", ()), at + 1)
    traces = []
    for within in laid.within:
        trace, at = trace_along(within, route, at)
        traces.append(trace)
    return (("row", tuple(traces)), at)


def _trace_of_choice(laid, route, at):
    """Return (trace, at) of a choice: the one whose edges the route goes on with."""
    numbered = enumerate(laid.within)
    fitting = [index for index, within in numbered if within.first <= route[at] < within.following]
    trace, at = trace_along(laid.within[fitting[0]], route, at)
    return (("choice", fitting[0], trace), at)


def _trace_of_repeat(laid, route, at):
    """Return (trace, at) of a repeat, which ends with its last edge."""
    at += 1
    traces = []
    while route[at] != laid.following - 1:
        trace, at = trace_along(laid.within[0], route, at)
        traces.append(trace)
    return (("repeat", tuple(traces)), at + 1)
