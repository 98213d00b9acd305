"""Sessions: walkers that take edges, edit their machine, and keep records of answers."""

from fracwalk.errors import UnknownCheckpoint, UnknownRecord, WrongPlace
from fracwalk.machines import machine_of, place_state
from fracwalk.moves import act, is_integer, require_value
from fracwalk.questions import ask_move
from fracwalk.valuequestions import ask_value
from fracwalk.verdicts import halves_of, with_new_table
from fracwalk.words import move_of, value_word


class Walker:
    """A machine of its own, a place and a value in it, checkpoints and records."""

    def __init__(self, machine, place, value):
        machine.require_place(place)
        self.place = place
        self.value = require_value(value)
        self._machine = machine.twin()
        self._checkpoints = []
        self._records = []

    def take(self, number):
        """Take an edge."""
        start, end, word, _ = self._machine.edge(number)
        if start != self.place:
            raise WrongPlace(number)
        self.place = end
        self.value = act(move_of(word), self.value)

    def add_edge(self, start, end, word, cost):
        """Add an edge and return its number."""
        return self._machine.add_edge(start, end, word, cost)

    def remove_edge(self, number):
        """Remove an edge."""
        self._machine.remove_edge(number)

    def reroute_edge(self, number, start, end):
        """Let an edge begin and end at other places."""
        self._machine.reroute_edge(number, start, end)

    def edges(self):
        """Return a dict from the numbers, ascending, to tuples (start, end, word, cost)."""
        return self._machine.edges()

    def checkpoint(self):
        """Keep the place, the value and the edges, and return the number of the checkpoint."""
        self._checkpoints.append((self.place, self.value, self._machine.edges()))
        return len(self._checkpoints) - 1

    def restore(self, number):
        """Bring back the place, the value and the edges of a checkpoint."""
        if not _is_index(number, self._checkpoints):
            raise UnknownCheckpoint(number)
        self.place, self.value, edges = self._checkpoints[number]
        self._machine = machine_of(len(self._machine), edges, self._machine.next_number())

    def ask_move(self, place, word):
        """Return the verdict on a word at a place, from here."""
        return ask_move(self._machine, self.place, place, word)

    def ask_value(self, place, target):
        """Return the verdict on a value at a place, from here."""
        return ask_value(self._machine, self.place, self.value, place, target)

    def record_move(self, place, word):
        """Ask for a word at a place, keep the verdict, and return the number of the record."""
        verdict = self.ask_move(place, word)
        return self._keep(("move", self.place, place, word), verdict)

    def record_value(self, place, target):
        """Ask for a value at a place, keep the verdict, and return the number of the record."""
        verdict = self.ask_value(place, target)
        return self._keep(("value", self.place, self.value, place, target), verdict)

    def recorded(self, number):
        """Return (question, verdict) of a record."""
        self._require_known(number)
        question, verdict = self._records[number]
        return (question, with_new_table(verdict))

    def halves(self, number):
        """Return whether "at most" holds now, or None, and whether "at least" holds now, of a record."""
        self._require_known(number)
        question, verdict = self._records[number]
        if question[0] == "move":
            _, start, place, word = question
            system = self._machine.system(start)
        else:
            _, start, value, place, target = question
            system = self._machine.value_system(start, value)
            word = value_word(target)
        return halves_of(verdict, system, word, place_state(place))

    def _keep(self, question, verdict):
        self._records.append((question, verdict))
        return len(self._records) - 1

    def _require_known(self, number):
        if not _is_index(number, self._records):
            raise UnknownRecord(number)


def _is_index(value, rows):
    """Tell whether a value is the index of a row."""
    return is_integer(value) and 0 <= value < len(rows)
