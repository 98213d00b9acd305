"""Point 4 and stage 1: moves and values."""

import itertools
import math
import unittest

from fracwalk.errors import NotAMove, NotAValue
from fracwalk.moves import act, inverse_move, product, require_move, require_value
from tests.helpers import STRANGE_VALUES, Case, in_form, matrix_of, negated, reduced_words, small_values

IDENTITY = (1, 0, 0, 1)
TURN = (0, 1, -1, 0)
PLUS_ONE = (1, 1, 0, 1)

BIG = 10**39 + 7
BIG_MOVES = [
    (1, BIG, 0, 1),
    (1, 0, -BIG, 1),
    (BIG, BIG - 1, 1, 1),
    (BIG + 1, BIG, BIG + 2, BIG + 1),
    (0, 1, -1, BIG),
]


def small_moves(most):
    """All moves in their form with entries from -most to most."""
    entries = range(-most, most + 1)
    rows = itertools.product(entries, repeat=4)
    return [row for row in rows if row[0] * row[3] - row[1] * row[2] == 1 and row == in_form(row)]


class RequireMove(Case):
    def test_moves_in_their_form(self):
        for move in small_moves(4) + BIG_MOVES:
            self.assertEqual(require_move(move), move)

    def test_all_signs_changed(self):
        for move in small_moves(4) + BIG_MOVES:
            self.assertEqual(require_move(negated(move)), move)

    def test_every_determinant(self):
        for row in itertools.product(range(-3, 4), repeat=4):
            if row[0] * row[3] - row[1] * row[2] == 1:
                self.assertEqual(require_move(row), in_form(row))
            else:
                self.assert_refuses(NotAMove, "value", row, require_move, row)

    def test_wrong_determinants(self):
        for row in [(0, 0, 0, 0), (1, 0, 0, -1), (0, 1, 1, 0), (2, 0, 0, 2), (1, 2, 3, 4), (BIG, 1, 1, BIG)]:
            self.assert_refuses(NotAMove, "value", row, require_move, row)

    def test_wrong_lengths(self):
        for row in [(), (1,), (1, 0), (1, 0, 0), (1, 0, 0, 1, 0), (1, 0, 0, 1) * 2]:
            self.assert_refuses(NotAMove, "value", row, require_move, row)

    def test_wrong_kinds_of_entries(self):
        rows = [
            (True, 0, 0, 1),
            (1, False, 0, 1),
            (1, 0, False, 1),
            (1, 0, 0, True),
            (True, False, False, True),
            (1, 5, False, 1),
            ("1", "0", "0", "1"),
            (1, 0, 0, "1"),
            (1, None, 0, 1),
            (1, [0], 0, 1),
            (1, (0,), 0, 1),
            ((1, 0), (0, 1), 0, 1),
            (1, {}, 0, 1),
        ]
        for row in rows:
            error = self.assert_refuses(NotAMove, "value", row, require_move, row)
            self.assertEqual(list(map(type, error.value)), list(map(type, row)))

    def test_other_values(self):
        for value in STRANGE_VALUES + ["", "s", "srsr", "1001", (1, 0), [[1, 0], [0, 1]]]:
            self.assert_refuses(NotAMove, "value", value, require_move, value)

    def test_error_keeps_the_very_value(self):
        for value in [[1, 0, 0, 1], (-2, 0, 0, -2), {"a": 1}, ([], 0, 0, 1)]:
            with self.assertRaises(NotAMove) as caught:
                require_move(value)
            self.assertIs(caught.exception.value, value)


class RequireValue(Case):
    def test_values_as_they_are(self):
        values = small_values(7) + [(BIG, 1), (-BIG, 2), (1, BIG), (BIG, BIG + 1)]
        for value in values:
            self.assertIs(require_value(value), value)

    def test_every_small_pair(self):
        for p, q in itertools.product(range(-6, 7), repeat=2):
            if (p, q) == (1, 0) or (q > 0 and math.gcd(p, q) == 1):
                self.assertEqual(require_value((p, q)), (p, q))
            else:
                self.assert_refuses(NotAValue, "value", (p, q), require_value, (p, q))

    def test_infinity(self):
        self.assertEqual(require_value((1, 0)), (1, 0))
        for pair in [(-1, 0), (0, 0), (2, 0), (-2, 0), (BIG, 0)]:
            self.assert_refuses(NotAValue, "value", pair, require_value, pair)

    def test_negative_denominators(self):
        for pair in [(1, -1), (-1, -1), (0, -1), (3, -2), (-BIG, -1)]:
            self.assert_refuses(NotAValue, "value", pair, require_value, pair)

    def test_common_divisors(self):
        for pair in [(0, 2), (2, 2), (-2, 4), (6, 9), (-BIG, BIG), (3 * BIG, 3)]:
            self.assert_refuses(NotAValue, "value", pair, require_value, pair)

    def test_wrong_kinds_of_entries(self):
        pairs = [
            (True, 0),
            (1, False),
            (True, False),
            (0, True),
            (True, True),
            (2, True),
            (False, 1),
            ("1", 0),
            (1, "1"),
            (1, None),
            (1, (1,)),
            ([1], 1),
        ]
        for pair in pairs:
            error = self.assert_refuses(NotAValue, "value", pair, require_value, pair)
            self.assertEqual(list(map(type, error.value)), list(map(type, pair)))

    def test_other_values(self):
        for value in STRANGE_VALUES + ["1/2", "10", (1,), (1, 0, 0), (1, 2, 3), (1, 0, 0, 1)]:
            self.assert_refuses(NotAValue, "value", value, require_value, value)

    def test_error_keeps_the_very_value(self):
        for value in [[1, 0], (-1, 0), {"a": 1}, ([], 1)]:
            with self.assertRaises(NotAValue) as caught:
                require_value(value)
            self.assertIs(caught.exception.value, value)


class Products(Case):
    def test_example(self):
        self.assertEqual(product((1, 1, 0, 1), (0, 1, -1, 0)), (0, 1, -1, -1))

    def test_first_one_then_second_one(self):
        # First x + 1, then -1/x, is -1/(x + 1); the other order is 1 - 1/x.
        self.assertEqual(product(PLUS_ONE, TURN), (0, 1, -1, -1))
        self.assertEqual(product(TURN, PLUS_ONE), (1, -1, 1, 0))

    def test_acts_as_the_two_in_order(self):
        moves = small_moves(2)
        for first, then in itertools.product(moves, repeat=2):
            both = product(first, then)
            self.assertEqual(require_move(both), both)
            for value in [(1, 0), (0, 1), (-3, 5)]:
                self.assertEqual(act(both, value), act(then, act(first, value)))

    def test_is_the_product_of_matrices(self):
        for one, other in itertools.product(reduced_words(4), repeat=2):
            found = product(in_form(matrix_of(one)), in_form(matrix_of(other)))
            self.assertEqual(found, in_form(matrix_of(one + other)))

    def test_result_is_in_form(self):
        self.assertEqual(product(TURN, TURN), IDENTITY)
        self.assertEqual(product((0, 1, -1, -1), (0, 1, -1, -1)), (1, 1, -1, 0))
        self.assertEqual(product(negated(PLUS_ONE), IDENTITY), PLUS_ONE)
        self.assertEqual(product(IDENTITY, negated(PLUS_ONE)), PLUS_ONE)

    def test_large_numbers(self):
        self.assertEqual(product((1, BIG, 0, 1), (1, -BIG, 0, 1)), IDENTITY)
        self.assertEqual(product((1, BIG, 0, 1), (1, 0, 1, 1)), (1, BIG, 1, BIG + 1))
        huge = 10**3000
        self.assertEqual(product((1, huge, 0, 1), TURN), (0, 1, -1, -huge))


class Inverses(Case):
    def test_examples(self):
        self.assertEqual(inverse_move(IDENTITY), IDENTITY)
        self.assertEqual(inverse_move(PLUS_ONE), (1, -1, 0, 1))
        self.assertEqual(inverse_move(TURN), TURN)
        self.assertEqual(inverse_move((0, 1, -1, -1)), (1, 1, -1, 0))
        self.assertEqual(inverse_move((1, 1, -1, 0)), (0, 1, -1, -1))

    def test_undoes_the_move(self):
        for move in small_moves(4) + BIG_MOVES:
            back = inverse_move(move)
            self.assertEqual(require_move(back), back)
            self.assertEqual(product(move, back), IDENTITY)
            self.assertEqual(product(back, move), IDENTITY)
            self.assertEqual(inverse_move(back), move)
            self.assertEqual(inverse_move(negated(move)), back)


class Acting(Case):
    def test_example(self):
        self.assertEqual(act((0, 1, -1, 0), (2, 3)), (-3, 2))

    def test_infinity_and_zero(self):
        self.assertEqual(act(TURN, (1, 0)), (0, 1))
        self.assertEqual(act(TURN, (0, 1)), (1, 0))
        self.assertEqual(act(PLUS_ONE, (1, 0)), (1, 0))
        self.assertEqual(act(PLUS_ONE, (-1, 1)), (0, 1))
        self.assertEqual(act((1, 1, -1, 0), (1, 0)), (-1, 1))
        self.assertEqual(act((0, 1, -1, -1), (-1, 1)), (1, 0))
        self.assertEqual(act((1, -1, 1, 0), (0, 1)), (1, 0))

    def test_is_the_map(self):
        for (a, b, c, d), (p, q) in itertools.product(small_moves(2), small_values(4)):
            over, under = a * p + b * q, c * p + d * q
            found = act((a, b, c, d), (p, q))
            self.assertEqual(require_value(found), found)
            self.assertEqual(found[0] * under, over * found[1])
            self.assertEqual(act((-a, -b, -c, -d), (p, q)), found)

    def test_inverse_leads_back(self):
        for move, value in itertools.product(BIG_MOVES, small_values(3) + [(BIG, 2), (-1, BIG)]):
            self.assertEqual(act(inverse_move(move), act(move, value)), value)

    def test_large_numbers(self):
        self.assertEqual(act((1, BIG, 0, 1), (-BIG, 1)), (0, 1))
        self.assertEqual(act((0, 1, -1, BIG), (BIG, 1)), (1, 0))
        self.assertEqual(act((1, 10**3000, 0, 1), (1, 2)), (2 * 10**3000 + 1, 2))


if __name__ == "__main__":
    unittest.main()
