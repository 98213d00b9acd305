"""Machines of places and edges, their routes, and the systems of states and steps that they give."""

from fracwalk.errors import LimitExceeded, UnknownEdge, UnknownPlace, WrongPlace
from fracwalk.moves import is_integer, require_value
from fracwalk.words import reduce_word, require_word, value_word

MOST_PLACES = 12
MOST_EDGES = 26
MOST_STATES = 20
MOST_LETTERS = 8
MOST_VALUE_LETTERS = 10
HIGHEST_COST = 9

NEW_START = (-2, 0)


class System:
    """States, steps (state, kind, state, cost, edge, index) and a start."""

    def __init__(self, states, steps, start):
        self.states = states
        self.steps = steps
        self.start = start


class Machine:
    """Places, numbered from 0, and edges between them, with numbers that are never used again."""

    def __init__(self, places):
        if not is_integer(places) or not 1 <= places <= MOST_PLACES:
            raise LimitExceeded(MOST_PLACES)
        self._places = tuple(range(places))
        self._edges = {}
        self._following = 0

    def __len__(self):
        return len(self._places)

    def __eq__(self, other):
        return (
            isinstance(other, Machine)
            and self._places == other._places
            and self._edges == other._edges
            and self._following == other._following
        )

    def add_edge(self, start, end, word, cost):
        """Add an edge and return its number."""
        self.require_place(start)
        self.require_place(end)
        require_word(word)
        if len(word) > MOST_LETTERS:
            raise LimitExceeded(MOST_LETTERS)
        if not is_integer(cost) or not 0 <= cost <= HIGHEST_COST:
            raise LimitExceeded(HIGHEST_COST)
        if len(self._edges) >= MOST_EDGES:
            raise LimitExceeded(MOST_EDGES)
        number = self._following
        if self._state_count() + len(_inner_states(number, word)) > MOST_STATES:
            raise LimitExceeded(MOST_STATES)
        self._edges[number] = (start, end, word, cost)
        self._following = number + 1
        return number

    def remove_edge(self, number):
        """Remove an edge."""
        self._require_edge(number)
        del self._edges[number]

    def reroute_edge(self, number, start, end):
        """Let an edge begin and end at other places."""
        word, cost = self.edge(number)[2:]
        self.require_place(start)
        self.require_place(end)
        self._edges[number] = (start, end, word, cost)

    def edges(self):
        """Return a dict from the numbers, ascending, to tuples (start, end, word, cost)."""
        return {number: self._edges[number] for number in self._edges}

    def edge(self, number):
        """Return (start, end, word, cost) of an edge."""
        self._require_edge(number)
        return self._edges[number]

    def next_number(self):
        """Return the number of the edge that is added next."""
        return self._following

    def twin(self):
        """Return an equal machine of its own."""
        return machine_of(len(self._places), self._edges, self._following)

    def run_route(self, place, route):
        """Return (end, word, cost) of a route from a place."""
        self.require_place(place)
        words = []
        total = 0
        for number in route:
            start, end, word, cost = self.edge(number)
            if start != place:
                raise WrongPlace(number)
            place = end
            words.append(word)
            total += cost
        return (place, reduce_word("".join(words)), total)

    def system(self, place):
        """Return the system that starts at a place."""
        self.require_place(place)
        return _system_of(self._place_states(), self._paths(), place_state(place))

    def value_system(self, place, value):
        """Return the system with the prelude for a place and a value."""
        self.require_place(place)
        word = value_word(require_value(value), limit=MOST_VALUE_LETTERS)
        prelude = [
            (-4, NEW_START, place_state(place), word, 0),
            (-3, NEW_START, NEW_START, "sR", 0),
            (-2, NEW_START, NEW_START, "rs", 0),
        ]
        return _system_of([NEW_START] + self._place_states(), prelude + self._paths(), NEW_START)

    def require_place(self, place):
        """Raise UnknownPlace for any value that is no place."""
        # True would be found among the places as 1.
        if not is_integer(place) or place not in self._places:
            raise UnknownPlace(place)

    def _require_edge(self, number):
        if not is_integer(number) or number not in self._edges:
            raise UnknownEdge(number)

    def _state_count(self):
        inner = [len(_inner_states(number, edge[2])) for number, edge in self._edges.items()]
        return len(self._places) + sum(inner)

    def _place_states(self):
        return [place_state(place) for place in self._places]

    def _paths(self):
        """Return the edges as (number, state, state, word, cost)."""
        return [
            (number, place_state(start), place_state(end), word, cost)
            for number, (start, end, word, cost) in self._edges.items()
        ]


def machine_of(places, edges, following):
    """Return a machine with these edges, as edges() returns them, and this next edge number."""
    machine = Machine(1)
    # Set here, as the numbers may have gaps, and as limits are a matter of add_edge and Machine only.
    machine._places = tuple(range(places))
    machine._edges = {number: edges[number] for number in sorted(edges)}
    machine._following = following
    return machine


def place_state(place):
    """Return the state of a place."""
    return (-1, place)


def _inner_states(number, word):
    """Return the states behind the letters of an edge's word, but the last one."""
    return [(number, index) for index in range(1, len(word))]


def _steps_of_path(number, start, end, word, cost):
    """Return the steps of an edge from a state to a state."""
    if word == "":
        return [(start, "", end, cost, number, 0)]
    along = [start] + _inner_states(number, word) + [end]
    costs = [cost] + [0] * (len(word) - 1)
    return [
        (along[index], letter, along[index + 1], costs[index], number, index)
        for index, letter in enumerate(word)
    ]


def _system_of(outer, paths, start):
    """Return the system of the states outside of edges and of the edges between them."""
    states = list(outer)
    steps = []
    for number, begin, end, word, cost in paths:
        states.extend(_inner_states(number, word))
        steps.extend(_steps_of_path(number, begin, end, word, cost))
    return System(tuple(sorted(states)), tuple(steps), start)
