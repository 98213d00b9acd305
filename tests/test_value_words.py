"""Point 6 and stage 2: the value words of values."""

import random
import unittest

from fracwalk.errors import LimitExceeded
from fracwalk.moves import act, require_value
from fracwalk.words import move_of, require_word, value_of, value_word
from tests.helpers import Case, begins_as_value_word, matrix_of, reduced_words, small_values, within

EXAMPLES = {
    (1, 0): "",
    (0, 1): "s",
    (-1, 1): "sr",
    (1, 1): "srs",
    (-2, 1): "srsR",
    (2, 1): "srsrs",
}


def value_words(longest):
    return [word for word in reduced_words(longest) if begins_as_value_word(word)]


class ValueOf(Case):
    def test_examples(self):
        self.assertEqual(value_of("srsr"), (-1, 2))
        for value, word in EXAMPLES.items():
            self.assertEqual(value_of(word), value)

    def test_other_words_than_value_words(self):
        self.assertEqual(value_of("r"), (0, 1))
        self.assertEqual(value_of("R"), (-1, 1))
        self.assertEqual(value_of("rs"), (1, 0))
        self.assertEqual(value_of("sR"), (1, 0))
        self.assertEqual(value_of("rsrss"), (0, 1))

    def test_is_where_the_move_takes_infinity(self):
        for word in reduced_words(9) + ["srsRs" + "rs" * 1000]:
            found = value_of(word)
            self.assertEqual(require_value(found), found)
            self.assertEqual(found, act(move_of(word), (1, 0)))
            a, _, c, _ = matrix_of(word)
            self.assertIn(found, [(a, c), (-a, -c)])

    def test_value_words_have_different_values(self):
        words = value_words(13)
        self.assertEqual(len({value_of(word) for word in words}), len(words))


class ValueWord(Case):
    def test_examples(self):
        self.assertEqual(value_word((1, 2)), "srsRs")
        self.assertEqual(value_word((-1, 2)), "srsr")
        for value, word in EXAMPLES.items():
            self.assertEqual(value_word(value), word)

    def test_leads_back_from_the_value(self):
        for word in value_words(14):
            self.assertEqual(value_word(value_of(word)), word)

    def test_leads_back_from_the_word(self):
        for value in small_values(25):
            word = value_word(value)
            self.assertEqual(require_word(word), word)
            self.assertTrue(begins_as_value_word(word))
            self.assertEqual(value_of(word), value)

    def test_whole_numbers_and_their_inverses(self):
        for n in range(1, 15):
            self.assertEqual(value_word((n, 1)), "s" + "rs" * n)
            self.assertEqual(value_word((-1, n)), ("s" + "rs" * n)[:-1])
            self.assertEqual(value_word((1, n)), "srs" + "Rs" * (n - 1))
            self.assertEqual(value_word((-n, 1)), ("srs" + "Rs" * (n - 1))[:-1])

    def test_limit_exactly(self):
        for word in value_words(10):
            value = value_of(word)
            for limit in range(13):
                if len(word) > limit:
                    self.assert_refuses(LimitExceeded, "limit", limit, value_word, value, limit=limit)
                else:
                    self.assertEqual(value_word(value, limit=limit), word)

    def test_limits_0_and_1(self):
        self.assertEqual(value_word((1, 0), limit=0), "")
        self.assert_refuses(LimitExceeded, "limit", 0, value_word, (0, 1), limit=0)
        self.assertEqual(value_word((0, 1), limit=1), "s")
        self.assert_refuses(LimitExceeded, "limit", 1, value_word, (-1, 1), limit=1)
        self.assertEqual(value_word((-1, 1), limit=2), "sr")

    def test_default_limit_is_60(self):
        # The word of n has 2 n + 1 letters, that of -1/n one less.
        self.assertEqual(value_word((29, 1)), "s" + "rs" * 29)
        self.assertEqual(len(value_word((-1, 30))), 60)
        self.assertEqual(len(value_word((-30, 1))), 60)
        for value in [(30, 1), (1, 30), (-31, 1), (-1, 31)]:
            self.assert_refuses(LimitExceeded, "limit", 60, value_word, value)
        self.assertEqual(value_word((30, 1), limit=61), "s" + "rs" * 30)

    def test_long_words_exactly(self):
        draw = random.Random(6)
        for length in [499, 500, 4999, 5000]:
            letters = "".join("s" + draw.choice("rR") for _ in range(length))
            word = ("sr" + letters)[:length]
            value = value_of(word)
            self.assertEqual(value_word(value, limit=length), word)
            self.assert_refuses(LimitExceeded, "limit", length - 1, value_word, value, limit=length - 1)
            self.assert_refuses(LimitExceeded, "limit", 60, value_word, value)

    def test_values_of_any_size_without_delay(self):
        huge = 10**5000 + 1
        values = [
            (huge, 1),
            (-huge, 1),
            (1, huge),
            (-1, huge),
            (huge, huge - 1),
            (-huge, huge - 1),
            (huge - 1, huge),
            (huge**2 + 1, huge),
        ]
        with within(20):
            for value in values:
                for limit in [0, 1, 60, 10**9, 10**4000]:
                    self.assert_refuses(LimitExceeded, "limit", limit, value_word, value, limit=limit)
                self.assert_refuses(LimitExceeded, "limit", 60, value_word, value)

    def test_a_huge_limit_does_no_harm(self):
        with within(20):
            self.assertEqual(value_word((3, 1), limit=10**100), "srsrsrs")


if __name__ == "__main__":
    unittest.main()
