"""Point 12: what is a derivation, what it costs, and the route that it stands for."""

import copy
import itertools
import random
import unittest

from fracwalk.derivations import derivation_cost, write_route
from fracwalk.errors import LimitExceeded
from fracwalk.machines import Machine, System
from fracwalk.tables import least_table
from tests.helpers import STRANGE_VALUES, Case, within
from tests.machine_helpers import (
    derivation_of,
    fields,
    machine_with,
    some_machines,
    some_systems,
    two_places,
)

P = (-1, 0)
Q = (-1, 1)
IN = (0, 1)
BACK = (1, 1)
START = (-2, 0)

STAY = ("stay",)

# The steps of the interface's example, and joins of them: r s and s R, then s s.
ITEMS = (
    ("r", P, IN, ("step", 0, 0)),
    ("s", IN, Q, ("step", 0, 1)),
    ("s", Q, BACK, ("step", 1, 0)),
    ("R", BACK, P, ("step", 1, 1)),
    ("", IN, BACK, ("join", 1, 2)),
    ("r", P, BACK, ("join", 0, 4)),
    ("", P, P, ("join", 5, 3)),
)

# The prelude's loops at the new start, and its way to the value -1.
LOOPS = (
    ("r", START, (-2, 1), ("step", -2, 0)),
    ("s", (-2, 1), START, ("step", -2, 1)),
    ("s", START, (-3, 1), ("step", -3, 0)),
    ("R", (-3, 1), START, ("step", -3, 1)),
)
TO_MINUS_1 = (("s", START, (-4, 1), ("step", -4, 0)), ("r", (-4, 1), P, ("step", -4, 1)))


def example():
    return two_places().system(0)


def doubling(times, item=("s", P, P, ("step", 0, 0))):
    """Items of a loop s: one of its square, that squared, and so on, times in all."""
    items = [item, ("", P, P, ("join", 0, 0))]
    while len(items) <= times:
        items.append(("", P, P, ("join", len(items) - 1, len(items) - 1)))
    return tuple(items)


def chain(length):
    """Items of a loop s: each joins the one before with one more."""
    items = [("s", P, P, ("step", 0, 0))]
    while len(items) < length:
        items.append((["s", ""][len(items) % 2], P, P, ("join", len(items) - 1, 0)))
    return tuple(items)


LOOP = machine_with(1, (0, 0, "s", 3)).system(0)


class DerivationCase(Case):
    def assert_cost(self, cost, derivation, system, word, state):
        """The answer is this cost or None, and nothing is changed."""
        before = copy.deepcopy((derivation, fields(system)))
        found = derivation_cost(derivation, system, word, state)
        self.assertEqual(found, cost)
        self.assertIs(type(found), type(cost))
        self.assertEqual((derivation, fields(system)), before)


class RightDerivations(DerivationCase):
    def test_example(self):
        self.assert_cost(2, (ITEMS[:2], (0, 1)), example(), "rs", Q)

    def test_words_of_several_lengths(self):
        system = example()
        for ends, word, state, cost in [
            ((0,), "r", IN, 2),
            ((0, 1), "rs", Q, 2),
            ((5,), "r", BACK, 3),
            ((5, 3), "rR", P, 3),
            ((6,), "", P, 3),
            ((0, 1, 2), "rss", BACK, 3),
            ((0, 1, 2, 3), "rssR", P, 3),
            ((0, 1, 2, 3, 0, 1), "rssRrs", Q, 5),
            ((5, 3) * 20, "rR" * 20, P, 60),
        ]:
            self.assert_cost(cost, (ITEMS, ends), system, word, state)

    def test_other_starts(self):
        machine = two_places()
        self.assert_cost(1, (ITEMS, (2, 3)), machine.system(1), "sR", P)
        system = example()
        inner = System(system.states, system.steps, IN)
        self.assert_cost(1, (ITEMS, (4,)), inner, "", BACK)
        self.assert_cost(0, (ITEMS, (1,)), inner, "s", Q)
        self.assert_cost(None, (ITEMS, (0, 1)), inner, "rs", Q)

    def test_stay(self):
        for state in example().states:
            items = (("", state, state, STAY),)
            self.assert_cost(0 if state == P else None, (items, (0,)), example(), "", state)
        # A state to which no step leads is a state, too.
        other = (("", Q, Q, STAY), ("", P, P, STAY), ("", P, P, ("join", 1, 1)))
        for end in (1, 2):
            self.assert_cost(0, (other, (end,)), Machine(2).system(0), "", P)

    def test_joins_with_stay(self):
        items = (("", P, P, STAY), ITEMS[0], ("r", P, IN, ("join", 0, 1)), ("", IN, IN, STAY))
        items += (("r", P, IN, ("join", 2, 3)),)
        for end in (1, 2, 4):
            self.assert_cost(2, (items, (end,)), example(), "r", IN)

    def test_edge_with_the_empty_word(self):
        system = machine_with(2, (0, 1, "", 4), (1, 1, "r", 1)).system(0)
        items = (("", P, Q, ("step", 0, 0)), ("r", Q, Q, ("step", 1, 0)), ("r", P, Q, ("join", 0, 1)))
        self.assert_cost(4, (items, (0,)), system, "", Q)
        self.assert_cost(5, (items, (2,)), system, "r", Q)
        self.assert_cost(None, (items, (0, 1)), system, "r", Q)

    def test_all_pairs_of_kinds(self):
        machine = machine_with(1, (0, 0, "", 1), (0, 0, "s", 2), (0, 0, "r", 3), (0, 0, "R", 4))
        products = {"ss": "", "rr": "R", "RR": "r", "rR": "", "Rr": ""}
        kinds = ["", "s", "r", "R"]
        steps = tuple((kind, P, P, ("step", number, 0)) for number, kind in enumerate(kinds))
        for one, other, joined in itertools.product(range(4), range(4), kinds):
            x, y = kinds[one], kinds[other]
            right = products.get(x + y, x + y if "" in (x, y) else None) == joined
            items = steps + ((joined, P, P, ("join", one, other)),)
            self.assert_cost(one + other + 2 if right else None, (items, (4,)), machine.system(0), joined, P)

    def test_order_of_a_join(self):
        system = machine_with(2, (0, 1, "r", 1), (1, 0, "r", 2)).system(0)
        steps = (("r", P, Q, ("step", 0, 0)), ("r", Q, P, ("step", 1, 0)))
        self.assert_cost(3, (steps + (("R", P, P, ("join", 0, 1)),), (2,)), system, "R", P)
        self.assert_cost(None, (steps + (("R", P, P, ("join", 1, 0)),), (2,)), system, "R", P)
        self.assert_cost(None, (steps + (("R", Q, Q, ("join", 0, 1)),), (0,)), system, "r", Q)

    def test_joined_items_meet(self):
        system = machine_with(2, (0, 1, "s", 1), (1, 1, "s", 2)).system(0)
        steps = (("s", P, Q, ("step", 0, 0)), ("s", Q, Q, ("step", 1, 0)))
        self.assert_cost(3, (steps + (("", P, Q, ("join", 0, 1)),), (2,)), system, "", Q)
        self.assert_cost(None, (steps + (("", P, Q, ("join", 0, 0)),), (2,)), system, "", Q)
        self.assert_cost(None, (steps + (("", P, Q, ("join", 0, 0)),), (0,)), system, "s", Q)

    def test_prelude(self):
        system = two_places().value_system(0, (-1, 1))
        items = LOOPS + TO_MINUS_1 + ITEMS[:2]
        for ends in [(4, 5, 6, 7), (0, 1, 2, 3, 4, 5, 6, 7), (2, 3, 2, 3, 4, 5, 6, 7)]:
            self.assert_cost(2, (items, ends), system, "".join(items[end][0] for end in ends), Q)
        self.assert_cost(None, (items, (4, 5)), two_places().system(0), "sr", P)

    def test_routes_of_machines(self):
        seen = 0
        for machine in some_machines(40, places=3, edges=5, seed=21):
            for place in range(len(machine)):
                system = machine.system(place)
                for route in drawn_routes(machine, place, 6):
                    items, ends, word, cost, state = derivation_of_route(machine, place, route)
                    self.assert_cost(cost, (items, ends), system, word, state)
                    self.assertEqual(write_route((items, ends), system, limit=6), route)
                    seen += 1
        self.assertGreater(seen, 100)

    def test_least_tables(self):
        for system in some_systems(20):
            table, items, found = least_table(system)
            for kind, p, q in table:
                if p == system.start:
                    self.assert_cost(table[kind, p, q], (items, (found[kind, p, q],)), system, kind, q)
                    other = {"": "s", "s": "", "r": "R", "R": "r"}[kind]
                    self.assert_cost(None, (items, (found[kind, p, q],)), system, other, q)


class WrongDerivations(DerivationCase):
    def assert_wrong(self, derivation, word="", state=P, system=None):
        self.assert_cost(None, derivation, system or example(), word, state)

    def test_ends_that_do_not_fit(self):
        for ends, word, state in [
            ((0, 1), "rs", P),
            ((0, 1), "rs", IN),
            ((0, 1), "rs", (-1, 2)),
            ((0, 1), "rR", Q),
            ((0, 1), "sr", Q),
            ((0, 1), "r", Q),
            ((0, 1), "rss", Q),
            ((0, 1), "", Q),
            ((1, 0), "rs", Q),
            ((1, 0), "sr", Q),
            ((0,), "rs", Q),
            ((0, 3), "rR", P),
            ((1,), "s", Q),
            ((2, 3), "sR", P),
            ((4,), "", BACK),
            ((6, 6), "", P),
            ((), "", P),
            ((), "r", IN),
            ((0, 1, 6), "rs", Q),
            ((6, 0, 1), "rs", Q),
            ((0,), "", IN),
            ((6,), "r", P),
            ((0, 1), "rx", Q),
            ((0, 1), "RS", Q),
        ]:
            self.assert_wrong((ITEMS, ends), word, state)

    def test_no_ends_or_no_items(self):
        for word in ("", "r", "rs"):
            for derivation in [((), ()), ((), (0,)), (ITEMS, ()), ((), (0, 1))]:
                self.assert_wrong(derivation, word)

    def test_ends_out_of_range(self):
        for end in [7, 8, -1, -7, -6, 10**59, -(10**59)]:
            self.assert_wrong((ITEMS, (end,)), "", P)
            self.assert_wrong((ITEMS, (end, 1)), "rs", Q)
            self.assert_wrong((ITEMS, (0, end)), "rs", Q)

    def test_ends_that_are_no_integers(self):
        for end in [False, True, None, "0", "", (), (0,), [0], {}, ITEMS[0]]:
            self.assert_wrong((ITEMS, (end, 1)), "rs", Q)
            self.assert_wrong((ITEMS, (0, end)), "rs", Q)
        self.assert_cost(2, (ITEMS, (0, 1)), example(), "rs", Q)
        self.assert_wrong((ITEMS, (0, True)), "rs", Q)
        self.assert_wrong((ITEMS, (False, 1)), "rs", Q)

    def test_lists_instead_of_tuples(self):
        items, ends = ITEMS[:2], (0, 1)
        for derivation in [
            [items, ends],
            (list(items), ends),
            (items, list(ends)),
            ((list(items[0]), items[1]), ends),
            ((("r", list(P), IN, ("step", 0, 0)), items[1]), ends),
            ((("r", P, list(IN), ("step", 0, 0)), items[1]), ends),
            ((("r", P, IN, ["step", 0, 0]), items[1]), ends),
            (items + (("", P, P, ["stay"]),), ends),
            ({0: items, 1: ends}, {}),
            (dict(enumerate(items)), ends),
        ]:
            self.assert_wrong(derivation, "rs", Q)

    def test_wrong_items_that_no_end_uses(self):
        wrong = [
            ("r", P, Q, ("step", 0, 0)),
            ("s", P, IN, ("step", 0, 0)),
            ("r", Q, IN, ("step", 0, 0)),
            ("r", P, IN, ("step", 0, 1)),
            ("r", P, IN, ("step", 1, 0)),
            ("r", P, IN, ("step", 2, 0)),
            ("r", P, IN, ("step", 0, -1)),
            ("r", P, IN, ("step", 0, 2)),
            ("r", P, IN, ("step", -2, 0)),
            ("r", P, IN, ("step", 0)),
            ("r", P, IN, ("step", 0, 0, 0)),
            ("r", P, IN, ("step",)),
            ("r", P, IN, ("Step", 0, 0)),
            ("r", P, IN, (0, 0)),
            ("r", P, IN, ()),
            ("r", P, IN, None),
            ("r", P, IN, "step"),
            ("r", P, IN, ("step", "0", 0)),
            ("r", P, IN, ("step", [0], 0)),
            ("r", P, IN, ("step", 0, {})),
            ("r", P, IN, ([], 0, 0)),
            ("r", P, IN, ({}, 0, 0)),
            ("r", P, IN, STAY),
            ("", P, Q, STAY),
            ("s", P, P, STAY),
            ("", (-1, 2), (-1, 2), STAY),
            ("", (0, 2), (0, 2), STAY),
            ("", START, START, STAY),
            ("", P, P, ("stay", 0)),
            ("", P, P, ("stay", 0, 0)),
            ("", P, P, "stay"),
            ("", P, P, ("join", 0, 1)),
            ("", P, P, ("join", 0)),
            ("", P, P, ("join", 0, 4, 3)),
            ("", IN, BACK, ("join", 2, 1)),
            ("s", IN, BACK, ("join", 1, 2)),
            ("", IN, P, ("join", 1, 2)),
            ("", Q, BACK, ("join", 1, 2)),
            ("rs", P, Q, ("join", 0, 1)),
            (None, P, Q, ("join", 0, 1)),
            ("x", P, Q, ("join", 0, 1)),
            ("r", P, IN),
            ("r", P, IN, ("step", 0, 0), 0),
            (),
            None,
            0,
            "",
            "rPQ!",
            [],
            {},
            ([], P, IN, ("step", 0, 0)),
            (["r"], P, IN, ("step", 0, 0)),
            (("r",), P, IN, ("step", 0, 0)),
            ("r", [P], IN, ("step", 0, 0)),
            ("r", {}, IN, ("step", 0, 0)),
            ("r", P, None, ("step", 0, 0)),
            ("r", P, ({}, []), ("step", 0, 0)),
            ("r", -1, 0, ("step", 0, 0)),
        ]
        for item in wrong:
            with self.subTest(item):
                self.assert_wrong((ITEMS + (item,), (0, 1)), "rs", Q)
                self.assert_wrong(((item,) + ITEMS[:2], (1, 2)), "rs", Q)
                self.assert_wrong((ITEMS + (item,), (7,)), "", P)

    def test_booleans_instead_of_integers(self):
        one, other = ITEMS[:2]
        for item in [
            ("r", (-1, False), IN, ("step", 0, 0)),
            ("r", P, (False, 1), ("step", 0, 0)),
            ("r", P, (0, True), ("step", 0, 0)),
            ("r", P, IN, ("step", False, 0)),
            ("r", P, IN, ("step", 0, False)),
        ]:
            self.assertEqual(item, one)
            self.assert_wrong(((item, other), (0, 1)), "rs", Q)
        for item in [
            ("", IN, BACK, ("join", True, 2)),
            ("", (0, True), BACK, ("join", 1, 2)),
            ("", IN, (True, True), ("join", 1, 2)),
        ]:
            self.assertEqual(item, ITEMS[4])
            self.assert_wrong((ITEMS[:4] + (item,) + ITEMS[5:], (0, 1)), "rs", Q)
        for item in [("r", P, BACK, ("join", False, 4)), ("r", (-1, False), BACK, ("join", 0, 4))]:
            self.assertEqual(item, ITEMS[5])
            self.assert_wrong((ITEMS[:5] + (item,) + ITEMS[6:], (0, 1)), "rs", Q)
        for state in [(-1, False), (-1, True)]:
            self.assert_wrong((ITEMS + (("", state, state, STAY),), (0, 1)), "rs", Q)

    def test_joins_of_items_that_are_not_earlier(self):
        for index in [1, 2, -1, -2, 5, 10**59]:
            for how in [("join", index, 0), ("join", 0, index), ("join", index, index)]:
                stays = (("", P, P, STAY), ("", P, P, how), ("", P, P, STAY))
                self.assert_wrong((stays, (0,)))
        for index in [0, -1, 1]:
            self.assert_wrong(((("", P, P, ("join", index, index)),), (0,)))
        right = (("", P, P, STAY), ("", P, P, ("join", 0, 0)), ("", P, P, ("join", 1, 0)))
        self.assert_cost(0, (right, (2,)), example(), "", P)

    def test_items_exchanged_cut_and_doubled(self):
        system = example()
        right = (ITEMS, (6,))
        self.assert_cost(3, right, system, "", P)
        for one, other in itertools.combinations(range(7), 2):
            items = list(ITEMS)
            items[one], items[other] = items[other], items[one]
            self.assert_wrong((tuple(items), (6,)))
        for at in range(7):
            cut = ITEMS[:at] + ITEMS[at + 1 :]
            self.assert_wrong((cut, (6,)))
            self.assert_wrong((cut, (5,)))
            self.assert_wrong((ITEMS[:at], (6,)))
        for at in range(6):
            self.assert_wrong((ITEMS[:at] + ITEMS[at : at + 1] + ITEMS[at:], (6,)))
        # Doubled behind all others, an item is right.
        self.assert_cost(3, (ITEMS + ITEMS, (13,)), system, "", P)
        self.assert_cost(3, (ITEMS + ITEMS[6:], (7,)), system, "", P)

    def test_steps_of_another_machine(self):
        machine = two_places()
        machine.remove_edge(1)
        self.assert_wrong((ITEMS, (0, 1)), "rs", Q, machine.system(0))
        self.assert_cost(2, (ITEMS[:2], (0, 1)), machine.system(0), "rs", Q)
        machine.reroute_edge(0, 0, 0)
        self.assert_wrong((ITEMS[:2], (0, 1)), "rs", Q, machine.system(0))
        machine = machine_with(2, (0, 1, "Rs", 2), (1, 0, "sR", 1))
        self.assert_wrong((ITEMS, (0, 1)), "rs", Q, machine.system(0))
        machine = machine_with(2, (0, 1, "rs", 7), (1, 0, "sR", 1))
        self.assert_cost(7, (ITEMS, (0, 1)), machine.system(0), "rs", Q)

    def test_arbitrary_values(self):
        values = STRANGE_VALUES + [
            ITEMS,
            (ITEMS,),
            (ITEMS, (0, 1), ()),
            (ITEMS, None),
            (None, (0, 1)),
            (ITEMS, 0),
            (ITEMS, "01"),
            ("rs", (0, 1)),
            ({}, {}),
            ([], []),
            (((),) * 3, (0, 1)),
            ((None,) * 3, (0, 1)),
            (((None,) * 4,) * 3, (0, 1)),
            ((([],) * 4,) * 3, (0, 1)),
            ((({},) * 4,) * 3, ({}, [])),
            ("items", "ends"),
        ]
        for value in values:
            self.assert_wrong(value, "rs", Q)
            self.assert_wrong(value, "", P)

    def test_drawn_values(self):
        draw = random.Random(17)
        pieces = [P, Q, IN, BACK, "", "s", "r", "R", 0, 1, 2, True, None, [], {}, (), "step", "join", "stay", STAY]
        pieces += [("step", 0, 0), ("step", 0, 1), ("join", 0, 1)]
        for _ in range(3000):
            items = tuple(tuple(draw.choices(pieces, k=4)) for _ in range(draw.randint(1, 2)))
            if draw.random() < 0.5:
                items = ITEMS[:2] + items
            ends = tuple(draw.choices([0, 1, 2, True, None, []], k=draw.randint(0, 2)))
            found = derivation_cost((items, ends), example(), "rs", Q)
            if found is not None:
                self.assertEqual((found, ends), (2, (0, 1)))

    def test_one_part_exchanged(self):
        draw = random.Random(18)
        system = example()
        for _ in range(3000):
            at, part = draw.randrange(7), draw.randrange(4)
            item = list(ITEMS[at])
            item[part] = draw.choice([P, Q, IN, BACK, "", "s", "r", "R", STAY, ("step", 0, 0), ("join", 0, 4), None])
            items = ITEMS[:at] + (tuple(item),) + ITEMS[at + 1 :]
            cost = 3 if items == ITEMS else 0 if items == ITEMS[:6] + (("", P, P, STAY),) else None
            self.assert_cost(cost, (items, (6,)), system, "", P)

    def test_large_and_deep_values(self):
        deep = 0
        for _ in range(11):
            deep = (deep,)
        deeper = [[[deep]]]
        wide = tuple(range(15000))
        for value in [deeper, (deep, deep), ((deep,), (0,)), (wide, (0,)), ((wide,), (0,)), (ITEMS, wide), ((), wide)]:
            self.assert_wrong(value, "", P)
        self.assert_wrong((((deep, deep, deep, deep),), (0,)), "", P)
        self.assert_wrong(((("", P, P, deep),), (0,)), "", P)
        self.assert_wrong(((("", P, P, ("join", deep, deep)),), (0,)), "", P)


class DeepDerivations(DerivationCase):
    def test_thousands_of_joins_deep(self):
        items = chain(4000)
        with within(5):
            self.assert_cost(12000, (items, (3999,)), LOOP, "", P)
            self.assert_cost(3 * 3999, (items, (3998,)), LOOP, "s", P)
            self.assert_cost(9 + 3 * 3999, (items, (0, 0, 0, 3998)), LOOP, "ssss", P)

    def test_deep_on_the_other_side(self):
        items = [("s", P, P, ("step", 0, 0))]
        while len(items) < 4000:
            items.append((["s", ""][len(items) % 2], P, P, ("join", 0, len(items) - 1)))
        self.assert_cost(12000, (tuple(items), (3999,)), LOOP, "", P)
        self.assertEqual(write_route((tuple(items), (3999,)), LOOP, limit=4000), (0,) * 4000)

    def test_exponentially_long_routes(self):
        for times in (10, 60, 3999):
            items = doubling(times)
            with within(5):
                self.assert_cost(3 * 2**times, (items, (times,)), LOOP, "", P)
                self.assert_cost(9, (items, (0, 0, 0)), LOOP, "sss", P)

    def test_wrong_at_the_end_of_many(self):
        items = chain(4000)
        for item in [None, ("s", P, P, ("join", 4000, 0)), ("s", P, P, ("join", 3998, 3998)), items]:
            self.assert_cost(None, (items + (item,), (0,)), LOOP, "s", P)

    def test_joins_of_a_free_loop(self):
        system = machine_with(1, (0, 0, "s", 0)).system(0)
        self.assert_cost(0, (doubling(3000), (3000,)), system, "", P)


class WriteRoute(DerivationCase):
    def assert_route(self, route, derivation, system, limit):
        before = copy.deepcopy((derivation, fields(system)))
        found = write_route(derivation, system, limit=limit)
        self.assertEqual(found, route)
        self.assertIs(type(found), tuple)
        self.assertEqual((derivation, fields(system)), before)

    def assert_too_long(self, derivation, system, limit):
        before = copy.deepcopy((derivation, fields(system)))
        with within(5), self.assertRaises(LimitExceeded) as caught:
            write_route(derivation, system, limit=limit)
        self.assertEqual(caught.exception.limit, limit)
        self.assertEqual((derivation, fields(system)), before)

    def test_example(self):
        self.assert_route((0,), (ITEMS[:2], (0, 1)), example(), 1)
        self.assert_route((0, 1), (ITEMS, (0, 1, 2, 3)), example(), 2)
        self.assert_route((0, 1), (ITEMS, (6,)), example(), 2)
        self.assert_route((0, 1, 0), (ITEMS, (5, 3, 0)), example(), 3)

    def test_limits_around_the_number_of_edges(self):
        for ends, route in [((6,), (0, 1)), ((5, 3) * 3, (0, 1) * 3), ((0, 1), (0,))]:
            for limit in range(len(route) + 5):
                if limit < len(route):
                    self.assert_too_long((ITEMS, ends), example(), limit)
                else:
                    self.assert_route(route, (ITEMS, ends), example(), limit)
        self.assert_route((0,) * 10000, (chain(1), (0,) * 10000), LOOP, 10000)
        self.assert_too_long((chain(1), (0,) * 10001), LOOP, 10000)

    def test_limit_0(self):
        self.assert_route((), ((("", P, P, STAY),), (0,)), example(), 0)
        self.assert_too_long((ITEMS, (0,)), example(), 0)
        inner = System(example().states, example().steps, IN)
        self.assert_route((), (ITEMS, (1,)), inner, 0)
        self.assert_too_long((ITEMS, (4,)), inner, 0)

    def test_edge_with_the_empty_word(self):
        system = machine_with(2, (0, 1, "", 4), (1, 1, "", 1)).system(0)
        items = (("", P, Q, ("step", 0, 0)), ("", Q, Q, ("step", 1, 0)), ("", P, Q, ("join", 0, 1)))
        items += (("", P, Q, ("join", 2, 1)),)
        self.assert_route((0, 1, 1), (items, (3,)), system, 3)
        self.assert_too_long((items, (3,)), system, 2)

    def test_limit_is_by_name_only(self):
        with self.assertRaises(TypeError):
            write_route((ITEMS, (0, 1)), example(), 1)
        with self.assertRaises(TypeError):
            write_route((ITEMS, (0, 1)), example())

    def test_exponentially_long_routes(self):
        for times in (14, 60, 3999):
            for limit in (0, 1, 10000):
                self.assert_too_long((doubling(times), (times,)), LOOP, limit)
        self.assert_route((0,) * 8192, (doubling(13), (13,)), LOOP, 8192)
        self.assert_too_long((doubling(13), (13,)), LOOP, 8191)
        self.assert_route((0,) * 8192, (doubling(3000), (13,)), LOOP, 10000)

    def test_deep_derivations(self):
        with within(5):
            self.assert_route((0,) * 4000, (chain(4000), (3999,)), LOOP, 4000)
            self.assert_too_long((chain(4000), (3999,)), LOOP, 3999)

    def test_many_joins_without_edges(self):
        # Thousands of joins with stay at each place of a long route.
        items = [("s", P, P, ("step", 0, 0)), ("", P, P, STAY)]
        while len(items) < 3980:
            items.append(("s", P, P, ("join", len(items) - 1, 1) if len(items) > 2 else ("join", 0, 1)))
        items.append(("", P, P, ("join", len(items) - 1, len(items) - 1)))
        for _ in range(12):
            items.append(("", P, P, ("join", len(items) - 1, len(items) - 1)))
        derivation = (tuple(items), (len(items) - 1,))
        self.assertEqual(derivation_cost(derivation, LOOP, "", P), 3 * 8192)
        with within(2):
            self.assert_route((0,) * 8192, derivation, LOOP, 10000)

    def test_prelude_is_left_out_and_not_counted(self):
        system = two_places().value_system(0, (-1, 1))
        items = LOOPS + TO_MINUS_1 + ITEMS[:2]
        self.assert_route((0,), (items, (4, 5, 6, 7)), system, 1)
        self.assert_route((0,), (items, (0, 1) * 500 + (2, 3) * 500 + (4, 5, 6, 7)), system, 1)
        self.assert_too_long((items, (0, 1, 4, 5, 6)), system, 0)
        self.assert_route((), (items, (0, 1, 2, 3, 4, 5)), system, 0)

    def test_exponentially_many_edges_of_the_prelude(self):
        system = machine_with(1, (0, 0, "s", 3)).value_system(0, (1, 0))
        # First x + 1 and x - 1, as one item of kind "", and this as often as 2 ** 2000 times.
        items = [
            *LOOPS,
            ("", (-2, 1), (-3, 1), ("join", 1, 2)),
            ("r", START, (-3, 1), ("join", 0, 4)),
            ("", START, START, ("join", 5, 3)),
        ]
        for _ in range(2000):
            items.append(("", START, START, ("join", len(items) - 1, len(items) - 1)))
        free = len(items) - 1
        items += [("", START, P, ("step", -4, 0)), ("s", P, P, ("step", 0, 0))]
        items.append(("", START, P, ("join", free, free + 1)))
        items.append(("s", START, P, ("join", free + 3, free + 2)))
        derivation = (tuple(items), (free + 4,))
        self.assertEqual(derivation_cost(derivation, system, "s", P), 3)
        with within(5):
            self.assert_route((0,), derivation, system, 1)
            self.assert_route((), (tuple(items), (free + 3,)), system, 0)
        self.assert_too_long(derivation, system, 0)

    def test_routes_run(self):
        for machine in some_machines(30, places=2, edges=4, longest=2, seed=31):
            system = machine.system(0)
            table, items, found = least_table(system)
            for word, place in itertools.product(["", "s", "r", "R", "sr", "rs"], range(len(machine))):
                derivation = derivation_of(system, table, items, found, word, (-1, place))
                if derivation:
                    route = write_route(derivation, system, limit=10000)
                    cost = derivation_cost(derivation, system, word, (-1, place))
                    self.assertEqual(machine.run_route(0, route), (place, word, cost))
                    self.assertEqual(write_route(derivation, system, limit=len(route)), route)


def drawn_routes(machine, place, longest):
    """Some routes from a place, drawn with a fixed seed."""
    draw = random.Random(place)
    routes = []
    for _ in range(4):
        at, route = place, []
        while len(route) < longest:
            leaving = [number for number, edge in machine.edges().items() if edge[0] == at]
            if not leaving:
                break
            route.append(draw.choice(leaving))
            at = machine.edges()[route[-1]][1]
        routes.append(tuple(route))
    return routes


def derivation_of_route(machine, place, route):
    """(items, ends, word, cost, state) of the route, with each letter as it comes: the word is not reduced."""
    start = (-1, place)
    items, ends, word, total, at = [("", start, start, STAY)], [], "", 0, start
    for number in route:
        _, end, letters, cost = machine.edges()[number]
        total += cost
        if letters == "":
            items.append(("", at, (-1, end), ("step", number, 0)))
            if ends:
                # An item of kind "" is no end of a word, but the last end may be joined with it.
                kind, begin, _, _ = items[ends[-1]]
                items.append((kind, begin, (-1, end), ("join", ends.pop(), len(items) - 1)))
                ends.append(len(items) - 1)
            elif len(items) > 2:
                items.append(("", start, (-1, end), ("join", len(items) - 2, len(items) - 1)))
        for index, letter in enumerate(letters):
            behind = (-1, end) if index == len(letters) - 1 else (number, index + 1)
            items.append((letter, at if index == 0 else (number, index), behind, ("step", number, index)))
            if not ends and items[-2][0] == "":
                items.append((letter, start, behind, ("join", len(items) - 2, len(items) - 1)))
            ends.append(len(items) - 1)
        word += letters
        at = (-1, end)
    return tuple(items), tuple(ends or [len(items) - 1]), word, total, at


if __name__ == "__main__":
    unittest.main()
