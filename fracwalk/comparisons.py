"""Comparing two sets: is one contained in the other one, and do they have a word in common?"""

from fracwalk.askedsets import AskedSet
from fracwalk.derivations import costs_of_items, derivation_cost
from fracwalk.errors import LimitExceeded
from fracwalk.moves import is_tuple_of
from fracwalk.proofs import Proof
from fracwalk.readings import Reading
from fracwalk.searches import search
from fracwalk.tables import entries_in_base, is_closed, rows_of
from fracwalk.verdicts import bars

MOST_COMPARED_STATES = 14


def contained(one, other):
    """Return ("contained", (table, items, pairs)) or ("parted", word, derivation, table) for two sets."""
    first, second = _compared_sets(one, other)
    proof, other_proof = Proof(first.ground), Proof(second.ground)
    if first.empty_entry() in proof.table and second.empty_entry() not in other_proof.table:
        return _parted(first, proof, other_proof, [])
    reading, other_reading = Reading(proof.rows), Reading(other_proof.rows)

    def steps_from(triple):
        mark, state, others = triple
        steps = []
        for letter in first.letters_behind(mark):
            after = first.mark_behind(mark, letter)
            all_behind = other_reading.behind_all(others, letter)
            steps.extend([(letter, (after, end, all_behind)) for end in reading.behind(state, letter)])
        return steps

    def parts(triple):
        _, state, others = triple
        return state == first.goal and second.goal not in others

    triples, path = search(("start", proof.start, (other_proof.start,)), steps_from, parts)
    if path is not None:
        return _parted(first, proof, other_proof, path)
    return ("contained", (proof.table, other_proof.made, tuple(triples)))


def met(one, other):
    """Return ("met", word, derivation, derivation) or ("apart", (table, table, pairs)) for two sets."""
    first, second = _compared_sets(one, other)
    proof, other_proof = Proof(first.ground), Proof(second.ground)
    if first.empty_entry() in proof.table and second.empty_entry() in other_proof.table:
        return _met(first, second, proof, other_proof, [])
    reading, other_reading = Reading(proof.rows), Reading(other_proof.rows)

    def steps_from(triple):
        return _common_steps(first, reading, other_reading, triple)

    def meets(triple):
        return triple[1:] == (first.goal, second.goal)

    triples, path = search(("start", proof.start, other_proof.start), steps_from, meets)
    if path is not None:
        return _met(first, second, proof, other_proof, path)
    return ("apart", (proof.table, other_proof.table, tuple(triples)))


def check_contained(one, other, verdict):
    """Tell whether any value is a right verdict on whether a set is contained in another one."""
    first, second = AskedSet(one), AskedSet(other)
    if is_tuple_of(verdict, 2) and verdict[0] == "contained":
        return _is_containment(first, second, verdict[1])
    if is_tuple_of(verdict, 4) and verdict[0] == "parted":
        return _is_parting(first, second, verdict)
    return False


def check_met(one, other, verdict):
    """Tell whether any value is a right verdict on whether two sets have a word in common."""
    first, second = AskedSet(one), AskedSet(other)
    if is_tuple_of(verdict, 2) and verdict[0] == "apart":
        return _is_separation(first, second, verdict[1])
    if is_tuple_of(verdict, 4) and verdict[0] == "met":
        return _is_meeting(first, second, verdict)
    return False


def _compared_sets(one, other):
    """Return both sets as they are asked for."""
    first, second = AskedSet(one), AskedSet(other)
    if max(len(first.states), len(second.states)) > MOST_COMPARED_STATES:
        raise LimitExceeded(MOST_COMPARED_STATES)
    return (first, second)


def _word_and_derivation(asked, proof, path, position):
    """Return the word of a path, and its derivation along the states at a position of the triples."""
    if not path:
        return ("", proof.derivation_along("", [proof.start, asked.goal]))
    word = "".join([letter for letter, _ in path])
    return (word, proof.derivation_along(word, [proof.start] + [triple[position] for _, triple in path]))


def _parted(first, proof, other_proof, path):
    """Return the verdict that the word of a path is in the first set only."""
    word, derivation = _word_and_derivation(first, proof, path, 1)
    return ("parted", word, derivation, other_proof.table)


def _met(first, second, proof, other_proof, path):
    """Return the verdict that the word of a path is in both sets."""
    word, derivation = _word_and_derivation(first, proof, path, 1)
    _, other_derivation = _word_and_derivation(second, other_proof, path, 2)
    return ("met", word, derivation, other_derivation)


def _common_steps(first, reading, other_reading, triple):
    """Return the steps of letters that are read from both states of a triple."""
    mark, state, other = triple
    return [
        (letter, (first.mark_behind(mark, letter), end, other_end))
        for letter in first.letters_behind(mark)
        for end in reading.behind(state, letter)
        for other_end in other_reading.behind(other, letter)
    ]


def _is_containment(first, second, evidence):
    """Tell whether any value shows that the first set is contained in the second one."""
    if not is_tuple_of(evidence, 3):
        return False
    table, items, triples = evidence
    if not is_closed(table, first.ground) or not isinstance(items, tuple) or not isinstance(triples, tuple):
        return False
    if costs_of_items(items, second.ground) is None:
        return False
    if not all([_is_triple_with_several(first, second, triple) for triple in triples]):
        return False
    held = {triple: True for triple in triples}
    if ("start", first.ground.start, (second.ground.start,)) not in held:
        return False
    entries = entries_in_base(table, first.ground)
    empty_item = second.empty_entry()
    if first.empty_entry() in entries and empty_item not in [item[:3] for item in items]:
        return False
    reading, other_reading = Reading(rows_of(entries)), Reading(_rows_of_items(items))
    return all([_is_contained_behind(first, second, reading, other_reading, triple, held) for triple in triples])


def _is_triple_with_several(first, second, triple):
    """Tell whether any value is a triple (mark, state of the first, ascending tuple of states of the second)."""
    if not is_tuple_of(triple, 3) or not isinstance(triple[2], tuple):
        return False
    mark, state, others = triple
    return (
        first.has_mark(mark)
        and first.has_state(state)
        and all([second.has_state(other) for other in others])
        and all([one < other for one, other in zip(others, others[1:])])
    )


def _is_contained_behind(first, second, reading, other_reading, triple, held):
    """Tell whether the triples behind one more letter are held, and whether no word parts there."""
    mark, state, others = triple
    for letter in first.letters_behind(mark):
        after = first.mark_behind(mark, letter)
        all_behind = other_reading.behind_all(others, letter)
        for end in reading.behind(state, letter):
            if (after, end, all_behind) not in held:
                return False
            if end == first.goal and second.goal not in all_behind:
                return False
    return True


def _rows_of_items(items):
    """Return a dict from (kind, state) to a dict of the states to which items of the kind lead from the state."""
    return rows_of({item[:3]: 0 for item in items})


def _is_parting(first, second, verdict):
    """Tell whether a word is in the first set and not in the second one."""
    _, word, derivation, table = verdict
    return (
        first.may_hold(word)
        and derivation_cost(derivation, first.ground, word, first.goal) is not None
        and bars(table, second.ground, word, second.goal)
    )


def _is_separation(first, second, evidence):
    """Tell whether any value shows that two sets have no word in common."""
    if not is_tuple_of(evidence, 3):
        return False
    table, other_table, triples = evidence
    if not is_closed(table, first.ground) or not is_closed(other_table, second.ground):
        return False
    if not isinstance(triples, tuple) or not all([_may_be_apart(first, second, triple) for triple in triples]):
        return False
    held = {triple: True for triple in triples}
    if ("start", first.ground.start, second.ground.start) not in held:
        return False
    entries, other_entries = entries_in_base(table, first.ground), entries_in_base(other_table, second.ground)
    if first.empty_entry() in entries and second.empty_entry() in other_entries:
        return False
    reading, other_reading = Reading(rows_of(entries)), Reading(rows_of(other_entries))
    for triple in triples:
        steps = _common_steps(first, reading, other_reading, triple)
        if not all([after in held for _, after in steps]):
            return False
    return True


def _may_be_apart(first, second, triple):
    """Tell whether any value is a triple (mark, state, state), and not with both places behind a letter."""
    if not is_tuple_of(triple, 3):
        return False
    mark, state, other = triple
    if not first.has_mark(mark) or not first.has_state(state) or not second.has_state(other):
        return False
    return mark == "start" or triple[1:] != (first.goal, second.goal)


def _is_meeting(first, second, verdict):
    """Tell whether a word is in both sets."""
    _, word, derivation, other_derivation = verdict
    return (
        first.may_hold(word)
        and derivation_cost(derivation, first.ground, word, first.goal) is not None
        and derivation_cost(other_derivation, second.ground, word, second.goal) is not None
    )
