"""Sets of moves and of values at a place: all their words, or that they are endless."""

from fracwalk.askedsets import AskedSet
from fracwalk.derivations import derivation_cost
from fracwalk.errors import LimitExceeded
from fracwalk.machines import System
from fracwalk.moves import is_tuple_of
from fracwalk.proofs import Proof
from fracwalk.readings import Reading
from fracwalk.searches import search
from fracwalk.tables import entries_in_base, is_closed, rows_of

LETTER_RANKS = {"s": 0, "r": 1, "R": 2}


def list_set(part, *, limit):
    """Return ("finite", words, evidence) or ("endless", (u, v, w), evidence) for a set."""
    asked = AskedSet(part)
    proof = Proof(asked.ground)
    behind = _steps_between_pairs(asked, proof)
    live = _live_pairs(behind, asked.goal)
    for pair in live:
        back = _way(behind, pair, {pair: True})
        if back is not None:
            return _endless_verdict(asked, proof, behind, pair, back)
    found = _words_with_states(asked, proof, live, limit)
    words = tuple([word for word, _ in found])
    derivations = tuple([proof.derivation_along(word, states) for word, states in found])
    dead = tuple([pair for pair in behind if pair not in live and pair[0] != "start"])
    return ("finite", words, (derivations, proof.table, dead))


def check_list(part, verdict):
    """Tell whether any value is a right verdict on a set that list_set takes."""
    if not is_tuple_of(verdict, 3):
        return False
    asked = AskedSet(part)
    if verdict[0] == "finite":
        return _is_right_list(asked, verdict[1], verdict[2])
    if verdict[0] == "endless":
        return _is_right_loop(asked, verdict[1], verdict[2])
    return False


def _steps_between_pairs(asked, proof):
    """Return a dict from the pairs (mark, state) that words lead to, to their steps (letter, pair)."""
    reading = Reading(proof.rows)

    def steps_from(pair):
        mark, state = pair
        return [
            (letter, (asked.mark_behind(mark, letter), after))
            for letter in asked.letters_behind(mark)
            for after in reading.behind(state, letter)
        ]

    pairs, _ = search(("start", proof.start), steps_from, lambda pair: False)
    return {pair: steps_from(pair) for pair in pairs}


def _live_pairs(behind, goal):
    """Return a dict of the pairs from which a word goes on, or ends, at the state that is the goal."""
    before = {pair: [] for pair in behind}
    for pair, steps in behind.items():
        for _, after in steps:
            before[after].append(pair)
    live = {pair: True for pair in behind if pair[1] == goal}
    waiting = list(live)
    while waiting:
        pair = waiting.pop()
        for leading in before[pair]:
            if leading not in live:
                live[leading] = True
                waiting.append(leading)
    return live


def _way(behind, source, goals):
    """Return the steps of a shortest way, of one step or more, from a pair to one of the goals, or None."""
    _, path = search(source, lambda pair: behind[pair], lambda end: end in goals)
    return path


def _endless_verdict(asked, proof, behind, pair, back):
    """Return the verdict on a set whose words may go a way back to a pair any number of times."""
    source = ("start", proof.start)
    ends = {end: True for end in behind if end[1] == asked.goal}
    ahead = [] if pair in ends else _way(behind, pair, ends)
    ways = [(source, _way(behind, source, {pair: True})), (pair, back), (pair, ahead)]
    words = tuple([_word_of_steps(steps) for _, steps in ways])
    derivations = tuple([_derivation_of_steps(proof, begin, steps) for begin, steps in ways])
    return ("endless", words, (pair[1], derivations))


def _word_of_steps(steps):
    """Return the word of the letters of steps."""
    return "".join([letter for letter, _ in steps])


def _derivation_of_steps(proof, begin, steps):
    """Return the derivation of the word of steps from a pair."""
    if not steps:
        return proof.derivation_along("", [begin[1], begin[1]])
    return proof.derivation_along(_word_of_steps(steps), [begin[1]] + [pair[1] for _, pair in steps])


def _words_with_states(asked, proof, live, limit):
    """Return the words of a finite set in order, each with the states that it leads along."""
    reading = Reading(proof.rows)
    found = []
    if asked.empty_entry() in proof.table:
        found.append(("", [proof.start, asked.goal]))
    # Beginnings of words, each with its mark and with the states behind each of its letters.
    level = [("", "start", [(proof.start,)])]
    while level:
        level = _longer_beginnings(asked, reading, live, level)
        for word, _, along in level:
            if asked.goal in along[-1]:
                found.append((word, _states_along(word, along, asked.goal, reading)))
        # Each beginning belongs to another word, so that with so many of them the words are too many.
        if len(found) > limit or len(level) > limit:
            raise LimitExceeded(limit)
    return found


def _longer_beginnings(asked, reading, live, level):
    """Return the beginnings of words that have one letter more, in order."""
    longer = []
    for word, mark, along in level:
        for letter in asked.letters_behind(mark):
            after = asked.mark_behind(mark, letter)
            states = [state for state in reading.behind_all(along[-1], letter) if (after, state) in live]
            if states:
                longer.append((word + letter, after, along + [tuple(states)]))
    return longer


def _states_along(word, along, goal, reading):
    """Return states, one of each of the tuples, between which the letters of the word lead to the goal."""
    states = [goal]
    for letter, before in reversed(list(zip(word, along))):
        leading = [state for state in before if states[-1] in reading.rows.get((letter, state), {})]
        states.append(leading[0])
    return states[::-1]


def _is_right_list(asked, words, evidence):
    """Tell whether these are all words of the set, in order."""
    if not isinstance(words, tuple) or not is_tuple_of(evidence, 3):
        return False
    derivations, table, dead = evidence
    if not _are_words_in_order(asked, words) or not is_closed(table, asked.ground):
        return False
    if not is_tuple_of(derivations, len(words)) or not isinstance(dead, tuple):
        return False
    for word, derivation in zip(words, derivations):
        if derivation_cost(derivation, asked.ground, word, asked.goal) is None:
            return False
    entries = entries_in_base(table, asked.ground)
    if asked.empty_entry() in entries and "" not in words:
        return False
    reading = Reading(rows_of(entries))
    return _are_dead(asked, reading, dead) and _leave_to(asked, reading, words, dead)


def _are_words_in_order(asked, words):
    """Tell whether these are words of sets of this sort, each one once and in order."""
    if not all([asked.may_hold(word) for word in words]):
        return False
    places = [(len(word), [LETTER_RANKS[letter] for letter in word]) for word in words]
    return all([one < other for one, other in zip(places, places[1:])])


def _are_dead(asked, reading, dead):
    """Tell whether these are pairs (mark, state) from which no letters lead to the place."""
    if not all([_may_be_dead(asked, pair) for pair in dead]):
        return False
    held = {pair: True for pair in dead}
    for mark, state in dead:
        for letter in asked.letters_behind(mark):
            after = asked.mark_behind(mark, letter)
            if not all([(after, end) in held for end in reading.behind(state, letter)]):
                return False
    return True


def _may_be_dead(asked, pair):
    """Tell whether any value is a pair of a mark but "start" and a state but the place's one."""
    if not is_tuple_of(pair, 2):
        return False
    mark, state = pair
    return asked.has_mark(mark) and mark != "start" and asked.has_state(state) and state != asked.goal


def _leave_to(asked, reading, words, dead):
    """Tell whether all ways along letters end as listed words, or leave the listed words to dead pairs."""
    held = {pair: True for pair in dead}
    beginnings, ends = _beginnings_of(words)
    waiting = [(0, "start", (asked.ground.start,))]
    while waiting:
        number, mark, states = waiting.pop()
        for letter in asked.letters_behind(mark):
            after = asked.mark_behind(mark, letter)
            reached = reading.behind_all(states, letter)
            longer = beginnings.get((number, letter))
            if longer is not None:
                if asked.goal in reached and longer not in ends:
                    return False
                waiting.append((longer, after, reached))
            elif not all([(after, state) in held for state in reached]):
                return False
    return True


def _beginnings_of(words):
    """Return (beginnings, ends): numbers of the words' beginnings by (number, letter), and of the words.

    The empty word has the number 0.
    """
    beginnings = {}
    ends = {}
    for word in words:
        number = 0
        for letter in word:
            number = beginnings.setdefault((number, letter), len(beginnings) + 1)
        ends[number] = True
    return (beginnings, ends)


def _is_right_loop(asked, words, evidence):
    """Tell whether u, v, w show that the set is endless."""
    if not is_tuple_of(words, 3) or not is_tuple_of(evidence, 2):
        return False
    if not all([isinstance(word, str) for word in words]):
        return False
    u, v, w = words
    middle, derivations = evidence
    if v == "" or not asked.may_hold(u + v + v + w) or not asked.may_hold(u + w):
        return False
    if not asked.has_state(middle) or not is_tuple_of(derivations, 3):
        return False
    start = asked.ground.start
    ways = [(start, u, middle), (middle, v, middle), (middle, w, asked.goal)]
    for derivation, (begin, word, end) in zip(derivations, ways):
        ground = System(asked.ground.states, asked.ground.steps, begin)
        if derivation_cost(derivation, ground, word, end) is None:
            return False
    return True
