"""What the tests of questions, sets and comparisons share: walks by matrices, samples, and calls."""

import copy
import heapq
import random

from tests.helpers import begins_as_value_word, in_form, matrix_of, reduced_words
from tests.machine_helpers import MachineCase, snapshot
from tests.variations import varied

# Values of every kind, also ones that are nearly verdicts.
STRANGE_VERDICTS = [
    None, True, False, 0, 1, 10**59, "", "barred", "reached", (), [], {}, (None,), ((),), ("barred",), ("barred", {}),
    ("barred", None), ("barred", []), ("barred", {}, {}), ["barred", {}], ("barred", {("", (-1, 0), (-1, 0)): 0}),
    ("reached",), ("reached", 0), ("reached", 0, (), {}), ("reached", 0, ((), ()), {}), ("reached", 0, None, None),
    ["reached", 0, ((), ()), {}], ("finite", (), ((), {}, ())), ("finite", (), ((), (), ())), ("finite", None, None),
    ("finite", ("",), ((), {}, ())), ("finite", (), ()), ("endless", ("", "", ""), ((-1, 0), ((), (), ()))),
    ("endless", ("", "s", ""), ((-1, 0), (((), ()), ((), ()), ((), ())))), ("endless", (), ()), ("endless", None, None),
    ("endless", (1, 2, 3), (4, 5)), ("finite", (1, [2]), (({},), {}, ({},))), ("contained", ({}, (), ())),
    ("contained", ()), ("contained", None), ("parted", "", ((), ()), {}), ("parted", None, None, None), ("parted", "s"),
    ("met", "", ((), ()), ((), ())), ("met", None, None, None), ("apart", ({}, {}, ())), ("apart", None), ("apart", ()),
    (["barred"], {}), ({}, {}), (("barred",), {}), {"barred": {}}, ("Barred", {}), ("", {}),
]


def times(one, then):
    """The matrix that does one, then the other one."""
    a, b, c, d = one
    e, f, g, h = then
    return in_form((e * a + f * c, e * b + f * d, g * a + h * c, g * b + h * d))


def moved(matrix, value):
    a, b, c, d = matrix
    over, under = a * value[0] + b * value[1], c * value[0] + d * value[1]
    return (-over, -under) if under < 0 or (under == 0 and over < 0) else (over, under)


def cheapest(machine, place, held, then, small):
    """The least costs of routes, by their ends and what is held there, as long as that stays small."""
    edges = [(start, end, in_form(matrix_of(word)), cost) for start, end, word, cost in machine.edges().values()]
    settled = {}
    waiting = [(0, place, held)]
    while waiting:
        cost, at, now = heapq.heappop(waiting)
        if (at, now) not in settled:
            settled[at, now] = cost
            for start, end, matrix, further in edges:
                if start == at and small(then(now, matrix)):
                    heapq.heappush(waiting, (cost + further, end, then(now, matrix)))
    return settled


def cheapest_moves(machine, place, most):
    """The least costs of routes by (end, matrix), over matrices with entries up to most."""
    return cheapest(machine, place, (1, 0, 0, 1), times, lambda matrix: max(map(abs, matrix)) <= most)


def cheapest_values(machine, place, value, most):
    """The least costs of routes by (end, value), over values with numerators and denominators up to most."""
    return cheapest(machine, place, value, lambda now, matrix: moved(matrix, now),
        lambda now: max(map(abs, now)) <= most)


# Reduced words by their matrices.
WORDS = {in_form(matrix_of(word)): word for word in reduced_words(9)}


def value_words(most_letters):
    """The value words of at most so many letters, by the value to which their matrix takes infinity."""
    return {
        moved(matrix, (1, 0)): word
        for matrix, word in WORDS.items()
        if len(word) <= most_letters and begins_as_value_word(word)
    }


def in_order(words):
    """Words by length, then by letters, s before r before R."""
    return tuple(sorted(words, key=lambda word: (len(word), word.replace("s", "a").replace("r", "b").replace("R",
                    "c"))))


class QuestionCase(MachineCase):
    """A test case for functions that take verdicts."""

    def assert_checked(self, expected, check, verdict, machines):
        """The checker says this, and it changes neither the verdict nor the machines."""
        before = (copy.deepcopy(verdict), [snapshot(machine) for machine in machines])
        self.assertIs(check(verdict), expected)
        self.assertEqual((verdict, [snapshot(machine) for machine in machines]), before)

    def assert_only_false(self, check, machines):
        for verdict in STRANGE_VERDICTS:
            self.assert_checked(False, check, verdict, machines)

    def assert_variations(self, check, plain, verdict, machines, answer, count, seed=5):
        """Values near a verdict are taken exactly if the plain conditions hold, and then answer the same."""
        draw = random.Random(seed)
        self.assertIs(plain(verdict), True)
        self.assert_checked(True, check, verdict, machines)
        for _ in range(count):
            near = varied(verdict, draw)
            expected = bool(plain(near))
            self.assert_checked(expected, check, near, machines)
            if expected:
                self.assertEqual(answer(near), answer(verdict))
