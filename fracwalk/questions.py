"""Questions about moves: can a route from a place to a place have a word, and at what cost?"""

from fracwalk.errors import LimitExceeded
from fracwalk.machines import place_state
from fracwalk.verdicts import is_right_verdict, verdict_on
from fracwalk.words import require_word

MOST_ASKED_LETTERS = 60


def ask_move(machine, start, place, word):
    """Return ("reached", cost, derivation, table) or ("barred", table) for the routes with a word."""
    machine.require_place(start)
    machine.require_place(place)
    require_word(word)
    if len(word) > MOST_ASKED_LETTERS:
        raise LimitExceeded(MOST_ASKED_LETTERS)
    return verdict_on(machine.system(start), word, place_state(place))


def check_move(machine, start, place, word, verdict):
    """Tell whether any value is a right verdict on a question that ask_move takes."""
    return is_right_verdict(verdict, machine.system(start), word, place_state(place))
