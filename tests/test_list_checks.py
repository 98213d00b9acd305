"""Points 3 and 15: which verdicts on sets check_list takes."""

import itertools
import unittest

from fracwalk.errors import LimitExceeded
from fracwalk.machines import Machine, System
from fracwalk.questions import ask_move
from fracwalk.sets import check_list, list_set
from tests.checkers import is_list_verdict
from tests.machine_helpers import machine_with, some_machines, two_places
from tests.question_helpers import QuestionCase

P = (-1, 0)
Q = (-1, 1)
T = (-1, 2)


def answer(verdict):
    """What a verdict says, without its certificate."""
    return verdict[:2] if verdict[0] == "finite" else verdict[0]


class ListCase(QuestionCase):
    def assert_for(self, part, expected, verdict):
        """The checker says this, as the plain conditions do."""
        self.assertIs(bool(is_list_verdict(part, verdict)), expected)
        self.assert_checked(expected, lambda near: check_list(part, near), verdict, [part[1]])


class FiniteLists(ListCase):
    def setUp(self):
        # Words from place 0 to 1: s, and s then r and so on; place 2 is a dead end that goes round.
        self.machine = machine_with(
            3, (0, 1, "s", 1), (0, 1, "sr", 2), (0, 1, "rs", 2), (0, 2, "r", 1), (2, 2, "sR", 0), (2, 2, "R", 0)
        )
        self.part = ("moves", self.machine, 0, 1)
        self.verdict = list_set(self.part, limit=10)
        _, self.words, (self.derivations, self.table, self.dead) = self.verdict

    def verdict_with(self, **other):
        """The verdict with other words, derivations, table or dead pairs."""
        parts = {"words": self.words, "derivations": self.derivations, "table": self.table, "dead": self.dead, **other}
        return ("finite", parts["words"], (parts["derivations"], parts["table"], parts["dead"]))

    def test_own_verdict(self):
        self.assertEqual(self.words, ("s", "sr", "rs"))
        self.assertGreater(len(self.dead), 2)
        self.assert_for(self.part, True, self.verdict)
        self.assert_for(self.part, True, self.verdict_with())

    def test_other_words(self):
        one, two, three = self.words
        for words in [
            (), (one,), (one, two), (one, three), (two, three), (one, three, two), (two, one, three), (three, two, one),
            (one, two, three, three), (one, one, two, three), (one, two, "sR"), (one, two, "rsr"),
            (one, two, three, "rsr"),
            ("",) + self.words, (one, two, "ss"), (one, two, "x"), (one, two, None), (one, two, 0), (one, two, ["rs"]),
            list(self.words), "".join(self.words), None, {}, (self.words,),
        ]:
            self.assert_for(self.part, False, self.verdict_with(words=words))
            if isinstance(words, tuple) and len(words) > 3:
                more = self.derivations + self.derivations[: len(words) - 3]
                self.assert_for(self.part, False, self.verdict_with(words=words, derivations=more))

    def test_words_left_out_with_their_derivations(self):
        for count in range(3):
            for kept in itertools.combinations(range(3), count):
                words = tuple(self.words[at] for at in kept)
                derivations = tuple(self.derivations[at] for at in kept)
                self.assert_for(self.part, False, self.verdict_with(words=words, derivations=derivations))

    def test_words_of_another_order_with_their_derivations(self):
        for order in itertools.permutations(range(3)):
            words = tuple(self.words[at] for at in order)
            derivations = tuple(self.derivations[at] for at in order)
            expected = order == (0, 1, 2)
            self.assert_for(self.part, expected, self.verdict_with(words=words, derivations=derivations))
        doubled = self.verdict_with(words=("s",) + self.words, derivations=self.derivations[:1] + self.derivations)
        self.assert_for(self.part, False, doubled)

    def test_words_that_are_not_reduced(self):
        machine = machine_with(2, (0, 1, "s", 1), (1, 1, "s", 1))
        part = ("moves", machine, 0, 1)
        verdict = list_set(part, limit=5)
        self.assertEqual(verdict[1], ("", "s"))
        items = (("s", P, Q, ("step", 0, 0)), ("s", Q, Q, ("step", 1, 0)))
        _, words, (derivations, table, dead) = verdict
        more = ("finite", words + ("ss",), (derivations + ((items, (0, 1)),), table, dead))
        self.assert_for(part, False, more)

    def test_other_derivations(self):
        one, two, three = self.derivations
        dear = (one[0] + (("r", Q, Q, ("step", 1, 1)),), one[1])
        unused = (one[0] + (("", P, P, ("stay",)),), one[1])
        for derivations, expected in [
            ((two, one, three), False), ((one, one, three), False), ((one, two), False),
            ((one, two, three, three), False),
            ([one, two, three], False), ((one, two, None), False), ((one, two, list(three)), False), (None, False),
            ((dear, two, three), False), ((unused, two, three), True), ((), False), ((one, two, ((), ())), False),
        ]:
            self.assert_for(self.part, expected, self.verdict_with(derivations=derivations))

    def test_derivations_may_cost_more_than_they_need(self):
        self.machine.add_edge(0, 1, "s", 9)
        verdict = list_set(self.part, limit=10)
        _, words, (derivations, table, dead) = verdict
        dear = ((("s", P, Q, ("step", 6, 0)),), (0,))
        self.assert_for(self.part, True, ("finite", words, ((dear,) + derivations[1:], table, dead)))

    def test_dead_pairs_removed(self):
        for at in range(len(self.dead)):
            dead = self.dead[:at] + self.dead[at + 1 :]
            self.assert_for(self.part, False, self.verdict_with(dead=dead))
        self.assert_for(self.part, False, self.verdict_with(dead=()))

    def test_dead_pairs_in_any_order_and_doubled(self):
        self.assert_for(self.part, True, self.verdict_with(dead=self.dead[::-1]))
        self.assert_for(self.part, True, self.verdict_with(dead=self.dead + self.dead))

    def test_more_dead_pairs(self):
        for pair, expected in [
            (("s", P), False), (("r", P), False), (("start", P), False), (("start", T), False),
            (("start", (4, 1)), False),
            (("s", Q), False), (("r", Q), False), (("first", T), False), (("", T), False), ((None, T), False),
            (("s", (-1, 3)), False), (("s", (9, 1)), False), (("s", (-2, 0)), False), (("s", (-1, True)), False),
            (("s", (4, True)), False), (("s", None), False), (("s",), False), (("s", T, T), False), (["s", T], False),
            ("sT", False), (None, False), (("s", [-1, 2]), False), (("s", (4, 1)), True), (("r", (4, 1)), True),
            (("R", (1, 1)), True), (("s", (1, 1)), False), (("s", (2, 1)), True), (("R", (2, 1)), False),
        ]:
            self.assert_for(self.part, expected, self.verdict_with(dead=self.dead + (pair,)))

    def test_dead_states_outside_of_the_base(self):
        machine = machine_with(3, (0, 1, "s", 1), (2, 1, "s", 1))
        part = ("moves", machine, 0, 1)
        _, words, (derivations, table, dead) = list_set(part, limit=5)
        self.assertEqual(dead, ())
        self.assertNotIn(("", T, T), table)
        for mark in "srR":
            self.assert_for(part, True, ("finite", words, (derivations, table, ((mark, T),))))
        # Within the base, place 2 leads on to place 1.
        whole = {**table, ("", T, T): 0, ("s", T, Q): 1}
        self.assert_for(part, False, ("finite", words, (derivations, whole, (("r", T),))))
        self.assert_for(part, True, ("finite", words, (derivations, whole, (("s", T),))))

    def test_dead_pairs_that_lead_to_the_place_outside_of_the_base(self):
        machine = machine_with(3, (0, 0, "s", 1), (2, 1, "s", 1))
        part = ("moves", machine, 0, 1)
        verdict = list_set(part, limit=5)
        self.assertEqual(verdict[:2], ("finite", ()))
        derivations, table, dead = verdict[2]
        self.assertEqual(dead, (("s", P),))
        self.assert_for(part, True, verdict)
        self.assert_for(part, False, ("finite", (), (derivations, table, dead + (("s", Q),))))
        self.assert_for(part, False, ("finite", (), (derivations, table, dead + (("r", Q),))))
        self.assert_for(part, True, ("finite", (), (derivations, table, dead + (("r", T),))))
        self.assert_for(part, False, ("finite", (), (derivations, table, ())))

    def test_no_dead_pairs(self):
        for dead in [None, [], list(self.dead), {}, dict(self.dead), "dead", 0, (self.dead,)]:
            self.assert_for(self.part, False, self.verdict_with(dead=dead))

    def test_tables(self):
        for key, worth in self.table.items():
            for near in [
                {**self.table, key: worth + 1}, {**self.table, key: worth - 1}, {**self.table, key: True},
                {other: self.table[other] for other in self.table if other != key},
            ]:
                verdict = self.verdict_with(table=near)
                self.assert_for(self.part, is_list_verdict(self.part, verdict), verdict)
        for near in [{}, None, (), list(self.table.items()), tuple(self.table)]:
            self.assert_for(self.part, False, self.verdict_with(table=near))
        # Entries that no steps need, and that read one word more.
        more = {**self.table, ("s", Q, Q): 0, ("", Q, Q): 0}
        verdict = self.verdict_with(table=more)
        self.assert_for(self.part, bool(is_list_verdict(self.part, verdict)), verdict)
        ignored = {**self.table, ("s", P, (-1, 9)): None, None: None}
        self.assert_for(self.part, True, self.verdict_with(table=ignored))

    def test_another_kind(self):
        for kind in ["endless", "Finite", "", None, 0, ("finite",), ["finite"]]:
            self.assert_for(self.part, False, (kind,) + self.verdict[1:])
        for evidence in [None, (), [], self.verdict[2][:2], self.verdict[2] + ((),), list(self.verdict[2])]:
            self.assert_for(self.part, False, ("finite", self.words, evidence))
        for verdict in [self.verdict[:2], self.verdict + ((),), list(self.verdict), self.verdict[1:], (self.verdict,)]:
            self.assert_for(self.part, False, verdict)

    def test_other_sets(self):
        self.assert_for(("moves", self.machine, 0, 0), False, self.verdict)
        self.assert_for(("moves", self.machine, 0, 2), False, self.verdict)
        self.assert_for(("moves", self.machine, 1, 1), False, self.verdict)
        self.assert_for(("moves", Machine(3), 0, 1), False, self.verdict)
        self.assert_for(("values", self.machine, 0, (1, 0), 1), False, self.verdict)

    def test_a_finite_verdict_on_an_endless_set(self):
        for edge in [(1, 1, "rs", 1), (0, 0, "rs", 1), (2, 1, "", 1)]:
            number = self.machine.add_edge(*edge)
            endless = list_set(self.part, limit=10)
            self.assertEqual(endless[0], "endless")
            table = ask_move(self.machine, 0, 0, "")[3]
            self.assert_for(self.part, False, self.verdict)
            self.assert_for(self.part, False, self.verdict_with(table=table))
            every = tuple(itertools.product("srR", [state for state in self.machine.system(0).states if state != Q]))
            self.assert_for(self.part, False, self.verdict_with(table=table, dead=every))
            self.machine.remove_edge(number)
            self.assert_for(self.part, True, self.verdict)
            self.assert_for(self.part, False, endless)


class TheEmptyWord(ListCase):
    def test_listed_or_not(self):
        for machine, place, words in [
            (machine_with(2, (0, 1, "", 1), (0, 1, "s", 1)), 1, ("", "s")),
            (machine_with(2, (0, 1, "s", 1)), 0, ("",)),
            (machine_with(2, (0, 1, "s", 1)), 1, ("s",)),
            (Machine(2), 0, ("",)),
            (Machine(2), 1, ()),
        ]:
            part = ("moves", machine, 0, place)
            verdict = list_set(part, limit=3)
            _, found, (derivations, table, dead) = verdict
            self.assertEqual(found, words)
            self.assert_for(part, True, verdict)
            if "" in words:
                without = ("finite", words[1:], (derivations[1:], table, dead))
                self.assert_for(part, False, without)
            else:
                stay = ((("", P, P, ("stay",)),), (0,))
                self.assert_for(part, False, ("finite", ("",) + words, ((stay,) + derivations, table, dead)))

    def test_values(self):
        part = ("values", two_places(), 0, (1, 0), 0)
        verdict = list_set(part, limit=3)
        self.assertEqual(verdict[1], ("",))
        derivations, table, dead = verdict[2]
        self.assert_for(part, True, verdict)
        self.assert_for(part, False, ("finite", (), ((), table, dead)))


class FiniteListsOfValues(ListCase):
    def setUp(self):
        self.machine = machine_with(2, (0, 1, "", 1), (0, 1, "s", 1), (0, 1, "rs", 1), (1, 1, "s", 0))
        self.part = ("values", self.machine, 0, (0, 1), 1)
        self.verdict = list_set(self.part, limit=10)

    def test_own_verdict(self):
        self.assertEqual(self.verdict[1], ("", "s", "sr", "srs"))
        self.assert_for(self.part, True, self.verdict)

    def test_words_that_are_no_value_words(self):
        # The words r, sR and so on are read in the system, too, but are no value words.
        _, words, (derivations, table, dead) = self.verdict
        system = self.machine.value_system(0, (0, 1))
        for word, at in [("R", 1), ("sR", 2), ("r", 1), ("rs", 3), ("sRs", 3)]:
            for other in derivations:
                more = words[:at] + (word,) + words[at:]
                verdict = ("finite", more, (derivations[:at] + (other,) + derivations[at:], table, dead))
                self.assert_for(self.part, False, verdict)
        self.assertIn(("", (-2, 0), (-2, 0)), table)
        self.assertEqual(system.start, (-2, 0))

    def test_words_of_the_prelude_alone(self):
        # From the new start "rs" and "sR" lead to itself, which are words, but no value words.
        part = ("values", Machine(1), 0, (1, 0), 0)
        _, words, (derivations, table, dead) = list_set(part, limit=3)
        self.assertEqual(words, ("",))
        start = (-2, 0)
        items = (
            ("s", start, (-3, 1), ("step", -3, 0)), ("R", (-3, 1), start, ("step", -3, 1)),
            ("", start, P, ("step", -4, 0)), ("R", (-3, 1), P, ("join", 1, 2)),
        )
        more = (items, (0, 3))
        self.assert_for(part, False, ("finite", ("", "sR"), (derivations + (more,), table, dead)))
        self.assertEqual(ask_move(machine_with(1, (0, 0, "sR", 0)), 0, 0, "sR")[0], "reached")

    def test_marks(self):
        part = ("values", two_places(), 0, (0, 1), 0)
        _, words, (derivations, table, dead) = list_set(part, limit=5)
        self.assertEqual({mark for mark, _ in dead}, {"first", "s", "r"})
        needed = 0
        for at in range(len(dead)):
            verdict = ("finite", words, (derivations, table, dead[:at] + dead[at + 1 :]))
            self.assert_for(part, bool(is_list_verdict(part, verdict)), verdict)
            needed += not is_list_verdict(part, verdict)
        self.assertGreater(needed, 0)
        for mark, state in itertools.product(["start", "first", "s", "r", "R", "", None],
            [P, Q, (0, 1), (-3, 1), (-2, 0)]):
            verdict = ("finite", words, (derivations, table, dead + ((mark, state),)))
            self.assert_for(part, bool(is_list_verdict(part, verdict)), verdict)

    def test_first_is_followed_by_r_only(self):
        # Behind "first" no R is read: here R would lead on to the place.
        machine = machine_with(3, (0, 2, "", 0), (2, 1, "R", 0))
        part = ("values", machine, 0, (0, 1), 1)
        verdict = list_set(part, limit=5)
        self.assertEqual(verdict[0], "finite")
        derivations, table, dead = verdict[2]
        self.assertIn(("first", T), dead)
        self.assert_for(part, True, verdict)
        as_s = tuple(("s", state) if mark == "first" else (mark, state) for mark, state in dead)
        self.assert_for(part, False, ("finite", verdict[1], (derivations, table, as_s)))
        self.assert_for(part, False, ("finite", verdict[1], (derivations, table, dead + (("s", T),))))


class EndlessSets(ListCase):
    def setUp(self):
        # s, then "rs" any number of times, then R at the end.
        self.machine = machine_with(3, (0, 1, "s", 1), (1, 1, "rs", 1), (1, 2, "R", 1))
        self.part = ("moves", self.machine, 0, 2)
        self.verdict = list_set(self.part, limit=0)
        _, self.words, (self.middle, self.derivations) = self.verdict

    def test_own_verdict(self):
        self.assertEqual(self.verdict[0], "endless")
        self.assert_for(self.part, True, self.verdict)

    def hand_made(self):
        """A verdict with the state of place 1 in the middle."""
        steps = (
            ("s", P, Q, ("step", 0, 0)), ("r", Q, (1, 1), ("step", 1, 0)), ("s", (1, 1), Q, ("step", 1, 1)),
            ("R", Q, T, ("step", 2, 0)),
        )
        return ("endless", ("s", "rs", "R"), (Q, ((steps, (0,)), (steps, (1, 2)), (steps, (3,)))))

    def test_hand_made(self):
        verdict = self.hand_made()
        self.assert_for(self.part, True, verdict)
        _, words, (middle, derivations) = verdict
        steps = derivations[0][0]
        twice = ("endless", ("srs", "rsrs", "rsR"), (Q, ((steps, (0, 1, 2)), (steps, (1, 2, 1, 2)),
                    (steps, (1, 2, 3)))))
        self.assert_for(self.part, True, twice)
        inner = ("endless", ("sr", "sr", "sR"), ((1, 1), ((steps, (0, 1)), (steps, (2, 1)), (steps, (2, 3)))))
        self.assert_for(self.part, True, inner)
        for other in [P, T, (1, 1), (0, 1), (-1, 3), (-1, True), (-1,), None, "Q", [-1, 1], (1, 2)]:
            self.assert_for(self.part, False, ("endless", words, (other, derivations)))

    def test_other_words(self):
        _, words, evidence = self.hand_made()
        u, v, w = words
        for other in [
            ("", v, w), (u, "", w), (u, v, ""), (u + v, v, w), (u, v + v, w), (u, v, v + w), (v, u, w), (w, v, u),
            (u, w, v),
            ("srs", v, w), (u, "sr", w), (u, "Rs", w), (u, v, "r"), (u, v, "Rs"), (u, v), (u, v, w, w), list(words),
            (None, v, w), (u, 0, w), (u, v, ["R"]), "srsR", None, (u, v, "x"), (("s",), v, w), (u, True, w),
        ]:
            self.assert_for(self.part, False, ("endless", other, evidence))

    def test_v_is_not_empty(self):
        _, (u, v, w), (middle, (one, two, three)) = self.hand_made()
        stay = ((("", Q, Q, ("stay",)),), (0,))
        self.assert_for(self.part, False, ("endless", (u, "", w), (middle, (one, stay, three))))
        finite = ("moves", machine_with(2, (0, 1, "s", 1)), 0, 1)
        step = ((("s", P, Q, ("step", 0, 0)),), (0,))
        self.assert_for(finite, False, ("endless", ("s", "", ""), (Q, (step, stay, stay))))

    def test_u_and_w_may_be_empty(self):
        part = ("moves", machine_with(1, (0, 0, "rs", 1)), 0, 0)
        steps = (("r", P, (0, 1), ("step", 0, 0)), ("s", (0, 1), P, ("step", 0, 1)), ("", P, P, ("stay",)))
        nothing, loop = (steps, (2,)), (steps, (0, 1))
        self.assert_for(part, True, ("endless", ("", "rs", ""), (P, (nothing, loop, nothing))))
        self.assert_for(part, True, ("endless", ("rs", "rs", ""), (P, (loop, loop, nothing))))
        self.assert_for(part, True, ("endless", ("", "rs", "rs"), (P, (nothing, loop, loop))))
        self.assert_for(part, False, ("endless", ("", "rs", ""), (P, (nothing, loop, loop))))
        self.assert_for(part, False, ("endless", ("", "rs", ""), (P, (((), ()), loop, nothing))))

    def test_words_that_are_not_reduced(self):
        # Each time round does something, but s at the end of v meets s at its beginning.
        machine = machine_with(2, (0, 0, "s", 1), (0, 0, "r", 1), (0, 1, "", 0))
        part = ("moves", machine, 0, 0)
        steps = (("s", P, P, ("step", 0, 0)), ("r", P, P, ("step", 1, 0)), ("", P, P, ("stay",)),
            ("R", P, P, ("join", 1, 1)))
        of = {"s": 0, "r": 1, "R": 3}

        def verdict(u, v, w):
            ways = tuple((steps, tuple(of[letter] for letter in word) or (2,)) for word in (u, v, w))
            return ("endless", (u, v, w), (P, ways))

        for u, v, w, expected in [
            ("", "s", "", False), ("", "srs", "", False), ("", "r", "", False), ("", "sr", "", True),
            ("r", "sr", "", True),
            ("s", "sr", "", False), ("s", "rs", "s", False), ("s", "rs", "", True), ("", "rs", "R", True),
            ("", "sr", "R", False),
            ("", "sr", "s", True), ("s", "rs", "r", True), ("r", "sR", "s", True), ("", "ss", "", False),
            ("", "rsr", "", False),
            ("r", "sr", "sr", True), ("", "rsR", "s", False), ("R", "srsR", "s", True), ("r", "s", "R", False),
        ]:
            self.assert_for(part, expected, verdict(u, v, w))

    def test_u_w_is_reduced(self):
        # u v v w is reduced, but u w is not.
        machine = machine_with(1, (0, 0, "s", 1), (0, 0, "r", 1))
        part = ("moves", machine, 0, 0)
        steps = (("s", P, P, ("step", 0, 0)), ("r", P, P, ("step", 1, 0)))
        ways = lambda *words: tuple((steps, tuple("sr".index(letter) for letter in word)) for word in words)
        self.assert_for(part, True, ("endless", ("s", "rs", "r"), (P, ways("s", "rs", "r"))))
        self.assert_for(part, False, ("endless", ("s", "rs", "s"), (P, ways("s", "rs", "s"))))

    def test_other_derivations(self):
        _, words, (middle, (one, two, three)) = self.hand_made()
        for derivations in [
            (one, two), (one, two, three, three), (two, one, three), (one, three, two), (three, two, one),
            (one, one, one),
            [one, two, three], (one, two, None), (one, list(two), three), None, (), (one, two, ((), ())),
            (one, (two[0], two[1][::-1]), three), (one, (two[0] + (None,), two[1]), three),
        ]:
            self.assert_for(self.part, False, ("endless", words, (middle, derivations)))
        for evidence in [None, (), (middle,), (middle, (one, two, three), ()), [middle, (one, two, three)],
            (one, two, three)]:
            self.assert_for(self.part, False, ("endless", words, evidence))

    def test_other_sets_and_kinds(self):
        verdict = self.hand_made()
        for part in [
            ("moves", self.machine, 0, 1), ("moves", self.machine, 1, 2), ("moves", self.machine, 0, 0),
            ("moves", Machine(3), 0, 2), ("values", self.machine, 0, (1, 0), 2),
        ]:
            self.assert_for(part, False, verdict)
        for other in [verdict[:2], verdict + ((),), list(verdict), ("finite",) + verdict[1:],
            ("Endless",) + verdict[1:]]:
            self.assert_for(self.part, False, other)

    def test_after_edits_and_back(self):
        verdict = self.hand_made()
        self.machine.reroute_edge(1, 1, 2)
        self.assert_for(self.part, False, verdict)
        self.machine.reroute_edge(1, 1, 1)
        self.assert_for(self.part, True, verdict)
        self.machine.remove_edge(2)
        self.assert_for(self.part, False, verdict)

    def test_value_words(self):
        # From 0, x + 1 any number of times: s, then "rs". Words that begin with "sR" are no value words.
        machine = machine_with(1, (0, 0, "rs", 1), (0, 0, "Rs", 1))
        part = ("values", machine, 0, (0, 1), 0)
        self.assertEqual(list_set(part, limit=0)[0], "endless")
        start = (-2, 0)
        items = (
            ("s", start, P, ("step", -4, 0)), ("r", P, (0, 1), ("step", 0, 0)), ("s", (0, 1), P, ("step", 0, 1)),
            ("R", P, (1, 1), ("step", 1, 0)), ("s", (1, 1), P, ("step", 1, 1)), ("", P, P, ("stay",)),
            ("s", start, (-3, 1), ("step", -3, 0)), ("R", (-3, 1), start, ("step", -3, 1)),
            ("", start, start, ("stay",)),
        )
        self.assert_for(part, True, ("endless", ("s", "rs", ""), (P, ((items, (0,)), (items, (1, 2)), (items, (5,))))))
        self.assert_for(part, True, ("endless", ("srs", "Rs", ""), (P, ((items, (0, 1, 2)), (items, (3, 4)),
                        (items, (5,))))))
        self.assert_for(part, False, ("endless", ("s", "Rs", ""), (P, ((items, (0,)), (items, (3, 4)), (items, (5,))))))
        # u v v w is a value word, but u w is none.
        self.assert_for(part, False, ("endless", ("s", "rs", "Rs"), (P,
                    ((items, (0,)), (items, (1, 2)), (items, (3, 4))))))
        around = ("endless", ("", "sR", "s"), (start, ((items, (8,)), (items, (6, 7)), (items, (0,)))))
        self.assert_for(part, False, around)


class AllKinds(ListCase):
    def test_arbitrary_values(self):
        machine = machine_with(2, (0, 1, "s", 1), (1, 1, "rs", 1))
        for part in [
            ("moves", machine, 0, 0), ("moves", machine, 0, 1), ("moves", machine, 1, 0),
            ("values", machine, 0, (1, 0), 0),
            ("values", machine, 0, (1, 2), 1),
        ]:
            self.assert_only_false(lambda near: check_list(part, near), [machine])

    def test_large_and_deep_values(self):
        part = ("moves", two_places(), 0, 1)
        deep = ()
        for _ in range(12):
            deep = (deep, [deep], {"a": deep}) if len(repr(deep)) < 3000 else (deep,)
        stay = ((("", P, P, ("stay",)),), (0,))
        for value in [
            deep, ("finite", deep, deep), ("finite", ("s",) * 9000, ((stay,) * 9000, {}, ())),
            ("endless", deep, (P, deep)),
            ("endless", ("sr" * 9000, "sr" * 9000, "s"), (P, (stay, stay, stay))),
            ("finite", (), ((), {}, (("s", P),) * 9000)),
            ("finite", ("sr" * 9000,), ((stay,), {("", P, P): 0}, ())),
        ]:
            self.assert_for(part, False, value)

    def test_values_near_verdicts(self):
        asked = {"finite": 0, "endless": 0}
        values = [(1, 0), (0, 1), (-1, 1), (1, 2)]
        for at, machine in enumerate(some_machines(60, places=3, edges=5, longest=3, seed=51)):
            place = at % len(machine)
            for part in [("moves", machine, 0, place), ("values", machine, 0, values[at % 4], place)]:
                try:
                    verdict = list_set(part, limit=25)
                except LimitExceeded:
                    continue
                asked[verdict[0]] += 1
                self.assert_variations(
                    lambda near: check_list(part, near), lambda near: is_list_verdict(part, near), verdict, [machine],
                    answer, 25, seed=at,
                )
        self.assertGreater(min(asked.values()), 20)

    def test_every_part_of_a_list(self):
        # Whatever words are left out with their derivations, the list is no longer the whole one.
        asked = 0
        machines = some_machines(60, places=2, edges=5, longest=2, seed=55) + [
            machine_with(2, (0, 1, first, 1), (0, 1, second, 1), (0, 1, third, 1))
            for first, second, third in itertools.combinations(["", "s", "r", "R", "sr", "rs", "sR", "srs"], 3)
        ]
        for machine in machines:
            for part in [("moves", machine, 0, len(machine) - 1), ("values", machine, 0, (0, 1), len(machine) - 1)]:
                try:
                    kind, words, evidence = list_set(part, limit=6)
                except LimitExceeded:
                    continue
                if kind == "endless":
                    continue
                derivations, table, dead = evidence
                for count in range(len(words)):
                    for kept in itertools.combinations(range(len(words)), count):
                        some, ways = tuple(words[at] for at in kept), tuple(derivations[at] for at in kept)
                        self.assertIs(check_list(part, ("finite", some, (ways, table, dead))), False)
                        asked += 1
        self.assertGreater(asked, 800)

    def test_evidence_near_verdicts(self):
        # Only the tuples of dead pairs and of words are varied here.
        draw_from = [("s", P), ("r", P), ("R", Q), ("s", Q), ("first", P), ("start", P), ("s", T), ("r", (0, 1)),
            ("s", (0, 1))]
        for at, machine in enumerate(some_machines(25, places=3, edges=4, longest=3, seed=53)):
            for part in [("moves", machine, 0, 0), ("values", machine, 0, (0, 1), 0)]:
                try:
                    verdict = list_set(part, limit=25)
                except LimitExceeded:
                    continue
                if verdict[0] == "finite":
                    _, words, (derivations, table, dead) = verdict
                    for pair in draw_from:
                        near = ("finite", words, (derivations, table, dead + (pair,)))
                        self.assert_for(part, bool(is_list_verdict(part, near)), near)
                    for cut in range(len(dead)):
                        near = ("finite", words, (derivations, table, dead[:cut] + dead[cut + 1 :]))
                        self.assert_for(part, bool(is_list_verdict(part, near)), near)

    def test_systems_with_another_start(self):
        # The derivations of an endless set begin at the state in the middle, the machine's system does not.
        machine = machine_with(2, (0, 1, "s", 1), (1, 1, "rs", 1))
        part = ("moves", machine, 0, 1)
        verdict = list_set(part, limit=0)
        system = machine.system(0)
        self.assertEqual(System(system.states, system.steps, Q).start, Q)
        self.assert_for(part, True, verdict)


if __name__ == "__main__":
    unittest.main()
