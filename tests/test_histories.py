"""Points 2 and 3 over the whole program: after every history of edits, one verdict to each question."""

import copy
import random
import unittest

from fracwalk.comparisons import check_contained, check_met, contained, met
from fracwalk.errors import LimitExceeded
from fracwalk.formats import format_machine, parse_machine
from fracwalk.machines import machine_of
from fracwalk.questions import ask_move, check_move
from fracwalk.sessions import Walker
from fracwalk.sets import check_list, list_set
from fracwalk.valuequestions import ask_value, check_value
from tests.helpers import reduced_words
from tests.machine_helpers import snapshot, some_machines
from tests.question_helpers import QuestionCase

VALUES = [(1, 0), (0, 1), (-1, 1), (1, 2), (-2, 3)]
WORDS = reduced_words(3)


def answer(verdict):
    """What a verdict says, as far as it is determined."""
    if verdict[0] in ("reached", "finite"):
        return verdict[:2]
    return (verdict[0], len(verdict[1])) if verdict[0] in ("parted", "met") else verdict[0]


def accepted_answer(verdict):
    """What the checker makes sure of: it does not ask whether a word is a shortest one."""
    return verdict[0] if verdict[0] in ("parted", "met") else answer(verdict)


class Edited:
    """A machine that is edited at random, and all that it once was."""

    def __init__(self, machine, draw):
        self.machine = machine
        self.draw = draw

    def edit(self):
        draw, machine = self.draw, self.machine
        places, numbers = len(machine), list(machine.edges())
        how = draw.randrange(4)
        if how == 0 and numbers:
            machine.remove_edge(draw.choice(numbers))
        elif how == 1 and numbers:
            machine.reroute_edge(draw.choice(numbers), draw.randrange(places), draw.randrange(places))
        elif len(machine.system(0).states) < 12:
            machine.add_edge(draw.randrange(places), draw.randrange(places), draw.choice(WORDS), draw.randint(0, 3))

    def questions(self, another):
        """Questions of all kinds, each as (ask, check), with the same places on another machine."""
        draw = self.draw
        start, place = draw.randrange(len(self.machine)), draw.randrange(len(self.machine))
        word, value, target = draw.choice(WORDS), draw.choice(VALUES), draw.choice(VALUES)
        many = draw.choice([0, 3, 1000])

        def on(machine):
            moves, values = ("moves", machine, start, place), ("values", machine, start, value, place)
            return [
                (lambda: ask_move(machine, start, place, word), lambda near: check_move(machine, start, place, word,
                        near)),
                (
                    lambda: ask_value(machine, start, value, place, target),
                    lambda near: check_value(machine, start, value, place, target, near),
                ),
                *questions_on_sets(moves, ("moves", another, 0, 0), many),
                *questions_on_sets(values, ("values", another, 0, target, 0), many),
            ]

        return on


def questions_on_sets(part, other, many):
    return [
        (lambda: list_set(part, limit=many), lambda near: check_list(part, near)),
        (lambda: contained(part, other), lambda near: check_contained(part, other, near)),
        (lambda: contained(other, part), lambda near: check_contained(other, part, near)),
        (lambda: met(part, other), lambda near: check_met(part, other, near)),
    ]


class Histories(QuestionCase):
    def answer_of(self, ask, check, machines):
        """The verdict, or the limit by which the question is refused; nothing changes."""
        before = [snapshot(machine) for machine in machines]
        try:
            verdict = ask()
        except LimitExceeded as error:
            verdict = error.limit
        else:
            self.assertIs(check(verdict), True)
            kept = copy.deepcopy(verdict)
            again = ask()
            self.assertEqual(again, kept)
        self.assertEqual([snapshot(machine) for machine in machines], before)
        return verdict

    def test_the_history_does_not_count(self):
        # Edges with the same numbers in a machine that was never edited give the same answers.
        draw = random.Random(41)
        for machine in some_machines(12, places=3, edges=3, longest=3, seed=95):
            edited, another = Edited(machine, draw), some_machines(1, places=2, edges=3, longest=2,
                seed=draw.randrange(99))[0]
            for _ in range(6):
                edited.edit()
                fresh = machine_of(len(machine), machine.edges(), machine.next_number())
                parsed = parse_machine(format_machine(machine))
                on = edited.questions(another)
                for (ask, check), *others in zip(on(machine), on(fresh), on(machine.twin()), on(parsed)):
                    verdict = self.answer_of(ask, check, [machine, another])
                    for ask_other, check_other in others:
                        found = self.answer_of(ask_other, check_other, [machine, fresh])
                        if isinstance(verdict, int):
                            self.assertEqual(found, verdict)
                        else:
                            self.assertEqual(answer(found), answer(verdict))
                            self.assertIs(check_other(verdict), True)
                            self.assertIs(check(found), True)

    def test_no_earlier_verdict_is_taken_for_another_answer(self):
        draw = random.Random(43)
        taken = refused = 0
        for machine in some_machines(12, places=3, edges=4, longest=3, seed=97):
            edited, another = Edited(machine, draw), some_machines(1, places=2, edges=3, longest=2,
                seed=draw.randrange(99))[0]
            on = edited.questions(another)
            earlier = []
            for _ in range(8):
                for number, (ask, check) in enumerate(on(machine)):
                    verdict = self.answer_of(ask, check, [machine, another])
                    for before in earlier:
                        held = before[number]
                        if isinstance(held, int) or isinstance(verdict, int):
                            continue
                        if check(held):
                            self.assertEqual(accepted_answer(held), accepted_answer(verdict))
                            taken += 1
                        else:
                            refused += 1
                earlier.append([self.answer_of(ask, check, [machine]) for ask, check in on(machine)])
                edited.edit()
        self.assertGreater(taken, 400)
        self.assertGreater(refused, 400)

    def test_verdicts_of_all_kinds_are_never_taken_for_each_other(self):
        draw = random.Random(47)
        for machine in some_machines(10, places=2, edges=4, longest=2, seed=99):
            on = Edited(machine, draw).questions(machine.twin())
            found = [(self.answer_of(ask, check, [machine]), check) for ask, check in on(machine)]
            for verdict, _ in found:
                if isinstance(verdict, int):
                    continue
                for true, check in found:
                    if not isinstance(true, int) and check(verdict):
                        self.assertEqual(accepted_answer(verdict), accepted_answer(true))

    def test_put_together_from_parts_of_other_verdicts(self):
        draw = random.Random(53)
        for machine in some_machines(12, places=2, edges=4, longest=2, seed=101):
            start, place = draw.randrange(len(machine)), draw.randrange(len(machine))
            verdicts = {word: ask_move(machine, start, place, word) for word in WORDS}
            tables = [verdict[-1] for verdict in verdicts.values()][:2] + [{key: 0 for key in verdicts[""][-1]}]
            derivations = [verdict[2] for verdict in verdicts.values() if verdict[0] == "reached"] or [((), ())]
            for word, verdict in verdicts.items():
                for table in tables:
                    for near in [("barred", table)] + [("reached", cost, way,
                            table) for way in derivations for cost in range(5)]:
                        if check_move(machine, start, place, word, near):
                            self.assertEqual(accepted_answer(near), accepted_answer(verdict))

    def test_walkers(self):
        draw = random.Random(59)
        for machine in some_machines(12, places=3, edges=4, longest=2, seed=103):
            walker = Walker(machine, 0, (0, 1))
            walker.checkpoint()
            for _ in range(12):
                numbers = list(walker.edges())
                how = draw.randrange(4)
                if how == 0 and numbers:
                    walker.remove_edge(draw.choice(numbers))
                elif how == 1 and len(machine_of(len(machine), walker.edges(), 99).system(0).states) < 15:
                    walker.add_edge(draw.randrange(len(machine)), draw.randrange(len(machine)), draw.choice(WORDS), 1)
                elif how == 2:
                    walker.restore(0)
                else:
                    going = [number for number, edge in walker.edges().items() if edge[0] == walker.place]
                    if going:
                        walker.take(draw.choice(going))
                now = machine_of(len(machine), walker.edges(), 99)
                place, word, target = draw.randrange(len(machine)), draw.choice(WORDS), draw.choice(VALUES)
                verdict = walker.ask_move(place, word)
                self.assertIs(check_move(now, walker.place, place, word, verdict), True)
                self.assertEqual(answer(verdict), answer(ask_move(now, walker.place, place, word)))
                try:
                    verdict = walker.ask_value(place, target)
                except LimitExceeded:
                    continue
                self.assertIs(check_value(now, walker.place, walker.value, place, target, verdict), True)
                self.assertEqual(answer(verdict), answer(ask_value(now, walker.place, walker.value, place, target)))

    def test_sets_and_single_questions_agree(self):
        for at, machine in enumerate(some_machines(40, places=3, edges=5, longest=3, seed=105)):
            for place in range(len(machine)):
                part = ("moves", machine, 0, place)
                try:
                    verdict = list_set(part, limit=40)
                except LimitExceeded:
                    continue
                for word in reduced_words(4):
                    reached = ask_move(machine, 0, place, word)[0] == "reached"
                    if verdict[0] == "finite":
                        self.assertEqual(reached, word in verdict[1])
                if verdict[0] == "endless":
                    u, v, w = verdict[1]
                    for times in range(4):
                        if len(u + v * times + w) <= 60:
                            self.assertEqual(ask_move(machine, 0, place, u + v * times + w)[0], "reached")


if __name__ == "__main__":
    unittest.main()
