"""Questions about values: begun with a value at a place, can another value be held at a place?"""

from fracwalk.machines import place_state
from fracwalk.moves import require_value
from fracwalk.questions import MOST_ASKED_LETTERS
from fracwalk.verdicts import is_right_verdict, verdict_on
from fracwalk.words import value_word


def ask_value(machine, start, value, place, target):
    """Return ("reached", cost, derivation, table) or ("barred", table) for the routes to a value."""
    machine.require_place(start)
    machine.require_place(place)
    require_value(value)
    require_value(target)
    system = machine.value_system(start, value)
    return verdict_on(system, value_word(target, limit=MOST_ASKED_LETTERS), place_state(place))


def check_value(machine, start, value, place, target, verdict):
    """Tell whether any value is a right verdict on a question that ask_value takes."""
    system = machine.value_system(start, value)
    word = value_word(target, limit=MOST_ASKED_LETTERS)
    return is_right_verdict(verdict, system, word, place_state(place))
