"""The sets that are asked for, their words, and how these are read letter by letter with marks."""

from fracwalk.machines import place_state
from fracwalk.tables import is_state
from fracwalk.words import is_word

MARKS = {"moves": ("start", "s", "r", "R"), "values": ("start", "first", "s", "r", "R")}
LETTERS_AT_START = {"moves": "srR", "values": "s"}
LETTERS_BEHIND = {"first": "r", "s": "rR", "r": "s", "R": "s"}


class AskedSet:
    """A set of moves or values: which of the two, the steps that make it, and the state of its place."""

    def __init__(self, part):
        machine, start, place = part[1], part[2], part[-1]
        machine.require_place(start)
        machine.require_place(place)
        self.about = part[0]
        if self.about == "moves":
            self.ground = machine.system(start)
        else:
            self.ground = machine.value_system(start, part[3])
        self.goal = place_state(place)
        self.states = {state: True for state in self.ground.states}

    def letters_behind(self, mark):
        """Return the letters that may follow a mark, in order."""
        if mark == "start":
            return LETTERS_AT_START[self.about]
        return LETTERS_BEHIND[mark]

    def mark_behind(self, mark, letter):
        """Return the mark that follows a mark after a letter."""
        if self.about == "values" and mark == "start":
            return "first"
        return letter

    def has_state(self, value):
        """Tell whether any value is a state of the system."""
        return is_state(value, self.states)

    def has_mark(self, value):
        """Tell whether any value is a mark."""
        return value in MARKS[self.about]

    def may_hold(self, value):
        """Tell whether any value is a word that a set of this sort may have."""
        if not is_word(value):
            return False
        return self.about == "moves" or value in ("", "s") or value.startswith("sr")

    def empty_entry(self):
        """Return the key of the entry by which the empty word is read to the place."""
        return ("", self.ground.start, self.goal)
