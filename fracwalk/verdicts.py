"""Verdicts on one word: can it be read from the start of a system to a state, and at what cost?"""

from fracwalk.derivations import derivation_cost
from fracwalk.moves import is_integer, is_tuple_of
from fracwalk.proofs import Proof
from fracwalk.tables import is_closed, reading_cost


def verdict_on(system, word, state):
    """Return ("reached", cost, derivation, table) or ("barred", table)."""
    proof = Proof(system)
    way = proof.least_way(word, state)
    if way is None:
        return ("barred", proof.table)
    cost, derivation = way
    return ("reached", cost, derivation, proof.table)


def is_right_verdict(verdict, system, word, state):
    """Tell whether any value is a right verdict on a word."""
    if is_tuple_of(verdict, 2) and verdict[0] == "barred":
        return bars(verdict[1], system, word, state)
    if not is_tuple_of(verdict, 4) or verdict[0] != "reached":
        return False
    _, cost, derivation, table = verdict
    return (
        is_integer(cost)
        and derivation_cost(derivation, system, word, state) == cost
        and is_closed(table, system)
        and reading_cost(table, system, word, state) == cost
    )


def bars(table, system, word, state):
    """Tell whether any value is a closed table in which a word cannot be read."""
    return is_closed(table, system) and reading_cost(table, system, word, state) is None


def halves_of(verdict, system, word, state):
    """Return whether "at most" holds, or None, and whether "at least" holds, of a verdict on any system."""
    if verdict[0] == "barred":
        return (None, bars(verdict[1], system, word, state))
    _, cost, derivation, table = verdict
    at_most = derivation_cost(derivation, system, word, state) == cost
    if not is_closed(table, system):
        return (at_most, False)
    read = reading_cost(table, system, word, state)
    return (at_most, read is None or read >= cost)


def with_new_table(verdict):
    """Return the same verdict with a table of its own."""
    table = verdict[-1]
    return verdict[:-1] + ({key: table[key] for key in table},)
