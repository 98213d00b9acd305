"""Point 2: how the functions are called, and that they change nothing that they are given."""

import copy
import unittest

from fracwalk import moves, words
from fracwalk.errors import LimitExceeded, NotAMove, NotAValue, NotAWord, NotReduced

# Function, names and arguments in the order of the interface, result.
CALLS = [
    (moves.require_move, [("value", (-1, -1, 0, -1))], (1, 1, 0, 1)),
    (moves.require_value, [("value", (-2, 3))], (-2, 3)),
    (moves.product, [("first", (1, 1, 0, 1)), ("then", (0, 1, -1, 0))], (0, 1, -1, -1)),
    (moves.inverse_move, [("move", (1, 1, 0, 1))], (1, -1, 0, 1)),
    (moves.act, [("move", (0, 1, -1, 0)), ("value", (2, 3))], (-3, 2)),
    (words.multiply_kinds, [("one", "r"), ("other", "")], "r"),
    (words.multiply_kinds, [("one", "s"), ("other", "r")], None),
    (words.require_word, [("value", "srs")], "srs"),
    (words.reduce_word, [("word", "rrssR")], "r"),
    (words.join_words, [("one", "rs"), ("other", "sr")], "R"),
    (words.join_words, [("one", "sr"), ("other", "rs")], "sRs"),
    (words.inverse_word, [("word", "rs")], "sR"),
    (words.move_of, [("word", "rs")], (1, 1, 0, 1)),
    (words.word_of, [("move", (1, -1, 0, 1))], "sR"),
    (words.value_of, [("word", "srsr")], (-1, 2)),
    (words.value_word, [("value", (1, 2))], "srsRs"),
]


class Calls(unittest.TestCase):
    def test_by_position(self):
        for function, arguments, result in CALLS:
            with self.subTest(function.__name__):
                self.assertEqual(function(*[worth for _, worth in arguments]), result)

    def test_by_name_in_another_order(self):
        for function, arguments, result in CALLS:
            with self.subTest(function.__name__):
                self.assertEqual(function(**dict(reversed(arguments))), result)

    def test_first_by_position_and_the_rest_by_name(self):
        for function, arguments, result in CALLS:
            with self.subTest(function.__name__):
                self.assertEqual(function(arguments[0][1], **dict(arguments[1:])), result)

    def test_arguments_have_no_default(self):
        for function, arguments, _ in CALLS:
            with self.subTest(function.__name__), self.assertRaises(TypeError):
                function(*[worth for _, worth in arguments[1:]])

    def test_no_further_argument(self):
        for function, arguments, _ in CALLS:
            with self.subTest(function.__name__), self.assertRaises(TypeError):
                function(*[worth for _, worth in arguments], 60)

    def test_kinds_of_results(self):
        for function, arguments, result in CALLS:
            found = function(*[worth for _, worth in arguments])
            self.assertIs(type(found), type(result))
            if isinstance(found, tuple):
                self.assertEqual({type(entry) for entry in found}, {int})


class Limits(unittest.TestCase):
    def test_by_name_only(self):
        for function, thing in [(words.word_of, (1, 0, 0, 1)), (words.value_word, (1, 0))]:
            self.assertEqual(function(thing, limit=5), "")
            with self.assertRaises(TypeError):
                function(thing, 5)

    def test_in_another_order(self):
        self.assertEqual(words.word_of(limit=2, move=(1, -1, 0, 1)), "sR")
        self.assertEqual(words.value_word(limit=5, value=(1, 2)), "srsRs")

    def test_default_is_60(self):
        for function, fits, too_long in [
            (words.word_of, (1, 30, 0, 1), (30, -1, 1, 0)),
            (words.value_word, (-1, 30), (30, 1)),
        ]:
            self.assertEqual(len(function(fits)), 60)
            self.assertEqual(len(function(too_long, limit=61)), 61)
            with self.assertRaises(LimitExceeded) as caught:
                function(too_long)
            self.assertEqual(caught.exception.limit, 60)


class Unchanged(unittest.TestCase):
    VALUES = [
        [1, 0, 0, 1],
        [[1, 0], [0, 1]],
        {"s": ["r", "R"]},
        ([1], 0, 0, 1),
        (1, 0, 0, {"a": [1]}),
        ([0], 1),
        ({}, {}),
        ["s", "r"],
        [],
        {},
    ]

    def test_refused_values_are_the_same_afterwards(self):
        for require, error in [
            (moves.require_move, NotAMove),
            (moves.require_value, NotAValue),
            (words.require_word, NotAWord),
        ]:
            for value in self.VALUES:
                before = copy.deepcopy(value)
                with self.assertRaises(error) as caught:
                    require(value)
                self.assertEqual(value, before)
                self.assertIs(caught.exception.value, value)

    def test_large_and_deep_values(self):
        deep = []
        for _ in range(14):
            deep = [deep, {"more": deep}] if len(repr(deep)) < 2000 else [deep]
        for value in [deep, (deep,) * 4, (deep, 1), tuple(range(20000)), [10**59] * 20000]:
            with self.assertRaises(NotAMove):
                moves.require_move(value)
            with self.assertRaises(NotAValue):
                moves.require_value(value)
            with self.assertRaises(NotAWord):
                words.require_word(value)

    def test_a_call_says_nothing_about_the_next_one(self):
        for _ in range(2):
            with self.assertRaises(NotReduced):
                words.require_word("ss")
            self.assertEqual(words.require_word("s"), "s")
            with self.assertRaises(LimitExceeded):
                words.word_of((1, 1, 0, 1), limit=1)
            self.assertEqual(words.word_of((1, 1, 0, 1)), "rs")


if __name__ == "__main__":
    unittest.main()
