"""Point 5 and stage 2: kinds, words, their moves, and the words of moves."""

import itertools
import random
import unittest

from fracwalk.errors import LimitExceeded, NotAWord, NotReduced
from fracwalk.moves import act, inverse_move, product, require_move
from fracwalk.words import (
    inverse_word,
    join_words,
    move_of,
    multiply_kinds,
    reduce_word,
    require_word,
    word_of,
)
from tests.helpers import (
    STRANGE_VALUES,
    Case,
    in_form,
    matrix_of,
    negated,
    reduced_slowly,
    reduced_words,
    within,
)

IDENTITY = (1, 0, 0, 1)


def some_words(count, longest, letters="srR"):
    """Words drawn with a fixed seed, not reduced."""
    draw = random.Random(5)
    return ["".join(draw.choices(letters, k=draw.randint(0, longest))) for _ in range(count)]


class MultiplyKinds(Case):
    def test_all_pairs(self):
        expected = {
            ("", ""): "",
            ("", "s"): "s",
            ("", "r"): "r",
            ("", "R"): "R",
            ("s", ""): "s",
            ("r", ""): "r",
            ("R", ""): "R",
            ("s", "s"): "",
            ("s", "r"): None,
            ("s", "R"): None,
            ("r", "s"): None,
            ("R", "s"): None,
            ("r", "r"): "R",
            ("R", "R"): "r",
            ("r", "R"): "",
            ("R", "r"): "",
        }
        self.assertEqual(len(expected), 16)
        for (one, other), kind in expected.items():
            self.assertEqual(multiply_kinds(one, other), kind)

    def test_agrees_with_the_moves(self):
        for one, other in itertools.product(["", "s", "r", "R"], repeat=2):
            kind = multiply_kinds(one, other)
            if kind is not None:
                self.assertEqual(product(move_of(one), move_of(other)), move_of(kind))


class RequireWord(Case):
    def test_reduced_words_as_they_are(self):
        for word in reduced_words(7) + ["sr" * 1000]:
            self.assertIs(require_word(word), word)

    def test_empty_word(self):
        self.assertEqual(require_word(""), "")

    def test_every_short_string_of_letters(self):
        good = set(reduced_words(6))
        for length in range(7):
            for letters in itertools.product("srR", repeat=length):
                word = "".join(letters)
                if word in good:
                    self.assertEqual(require_word(word), word)
                else:
                    self.assert_refuses(NotReduced, "word", word, require_word, word)

    def test_not_reduced(self):
        for word in ["ss", "rr", "RR", "rR", "Rr", "srr", "rss", "srsrsRr", "sr" * 50 + "r"]:
            self.assert_refuses(NotReduced, "word", word, require_word, word)

    def test_other_letters(self):
        for word in ["S", "x", "sr ", " s", "s\n", "1", "srsX", "-", "\u0455", "s\u0000", "R\u0301"]:
            self.assert_refuses(NotAWord, "value", word, require_word, word)

    def test_other_letters_come_before_not_reduced(self):
        for word in ["ssx", "xss", "rrS", "ss ", "s" * 60 + "?"]:
            self.assert_refuses(NotAWord, "value", word, require_word, word)

    def test_other_values(self):
        for value in STRANGE_VALUES + [("s",), ["s", "s"], {"s": "r"}, (0, 1, -1, 0)]:
            self.assert_refuses(NotAWord, "value", value, require_word, value)

    def test_error_keeps_the_very_value(self):
        for value in [["s"], {"s": []}, ("s", "s")]:
            with self.assertRaises(NotAWord) as caught:
                require_word(value)
            self.assertIs(caught.exception.value, value)


class ReduceWord(Case):
    def test_example(self):
        self.assertEqual(reduce_word("rrssR"), "r")

    def test_reduced_words_stay(self):
        for word in reduced_words(7):
            self.assertEqual(reduce_word(word), word)

    def test_every_short_string(self):
        for length in range(8):
            for letters in itertools.product("srR", repeat=length):
                word = "".join(letters)
                found = reduce_word(word)
                self.assertEqual(found, reduced_slowly(word))
                self.assertEqual(require_word(found), found)
                self.assertEqual(in_form(matrix_of(found)), in_form(matrix_of(word)))

    def test_many_neighbours_cancel(self):
        cases = {
            "s" * 5000: "",
            "s" * 4999: "s",
            "r" * 5000: "R",
            "r" * 4999: "r",
            "R" * 4998: "",
            "R" * 4999: "R",
            "rR" * 2500: "",
            "rs" * 1250 + "sR" * 1250: "",
            "srsR" * 625 + "rsRs" * 625: "",
            "rs" * 1249 + "rr" + "sR" * 1249: "rs" * 1249 + "R" + "sR" * 1249,
            "rs" * 1249 + "rrr" + "sR" * 1249: "",
            "ss" * 1000 + "sr" * 400 + "RRR" * 700 + "r": "sr" * 399 + "sR",
        }
        for word, reduced in cases.items():
            self.assertLessEqual(len(word), 5000)
            self.assertEqual(reduce_word(word), reduced)

    def test_long_strings(self):
        for word in some_words(6, 5000):
            found = reduce_word(word)
            self.assertEqual(require_word(found), found)
            self.assertEqual(in_form(matrix_of(found)), in_form(matrix_of(word)))
        for word in some_words(30, 200):
            self.assertEqual(reduce_word(word), reduced_slowly(word))


class JoinAndInverse(Case):
    def test_examples(self):
        self.assertEqual(join_words("rs", "sr"), "R")
        self.assertEqual(join_words("", ""), "")
        self.assertEqual(join_words("", "srs"), "srs")
        self.assertEqual(join_words("srs", ""), "srs")
        self.assertEqual(join_words("s", "r"), "sr")
        self.assertEqual(inverse_word(""), "")
        self.assertEqual(inverse_word("s"), "s")
        self.assertEqual(inverse_word("r"), "R")
        self.assertEqual(inverse_word("rs"), "sR")
        self.assertEqual(inverse_word("sRsr"), "Rsrs")

    def test_join_is_the_product(self):
        for one, other in itertools.product(reduced_words(5), repeat=2):
            found = join_words(one, other)
            self.assertEqual(found, reduced_slowly(one + other))
            self.assertEqual(require_word(found), found)

    def test_inverse_undoes(self):
        for word in reduced_words(8):
            back = inverse_word(word)
            self.assertEqual(require_word(back), back)
            self.assertEqual(len(back), len(word))
            self.assertEqual(join_words(word, back), "")
            self.assertEqual(join_words(back, word), "")
            self.assertEqual(inverse_word(back), word)
            self.assertEqual(move_of(back), inverse_move(move_of(word)))

    def test_long_words(self):
        word = "sRsr" * 5000
        self.assertEqual(inverse_word(word), "Rsrs" * 5000)
        self.assertEqual(join_words(word, inverse_word(word)), "")
        self.assertEqual(join_words(word, word), word + word)


class MoveOf(Case):
    def test_letters(self):
        self.assertEqual(move_of(""), IDENTITY)
        self.assertEqual(move_of("s"), (0, 1, -1, 0))
        self.assertEqual(move_of("r"), (0, 1, -1, -1))
        self.assertEqual(move_of("R"), (1, 1, -1, 0))

    def test_examples(self):
        self.assertEqual(move_of("rs"), (1, 1, 0, 1))
        self.assertEqual(move_of("sR"), (1, -1, 0, 1))

    def test_does_the_first_letter_first(self):
        # First -1/x, then -1/(x + 1), takes 2 to -1/2 and then to -2.
        self.assertEqual(act(move_of("sr"), (2, 1)), (-2, 1))
        self.assertEqual(act(move_of("rs"), (2, 1)), (3, 1))

    def test_is_the_product_of_the_letters(self):
        for word in reduced_words(8) + some_words(100, 40) + ["rs" * 2000]:
            found = move_of(word)
            self.assertEqual(found, in_form(matrix_of(word)))
            self.assertEqual(require_move(found), found)

    def test_reduced_words_have_different_moves(self):
        words = reduced_words(12)
        self.assertEqual(len({move_of(word) for word in words}), len(words))


class WordOf(Case):
    def test_examples(self):
        self.assertEqual(word_of((1, -1, 0, 1)), "sR")
        self.assertEqual(word_of((1, 1, 0, 1)), "rs")
        self.assertEqual(word_of(IDENTITY), "")
        self.assertEqual(word_of((0, 1, -1, 0)), "s")
        self.assertEqual(word_of((0, 1, -1, -1)), "r")
        self.assertEqual(word_of((1, 1, -1, 0)), "R")

    def test_leads_back_from_the_move(self):
        for word in reduced_words(12):
            self.assertEqual(word_of(move_of(word)), word)

    def test_all_signs_changed_is_the_same_move(self):
        for word in reduced_words(6):
            self.assertEqual(word_of(negated(move_of(word))), word)

    def test_leads_back_from_the_word(self):
        entries = range(-4, 5)
        for row in itertools.product(entries, repeat=4):
            if row[0] * row[3] - row[1] * row[2] == 1:
                found = word_of(row)
                self.assertEqual(require_word(found), found)
                self.assertEqual(move_of(found), in_form(row))

    def test_limit_exactly(self):
        for word in reduced_words(9):
            move = move_of(word)
            for limit in range(12):
                if len(word) > limit:
                    self.assert_refuses(LimitExceeded, "limit", limit, word_of, move, limit=limit)
                else:
                    self.assertEqual(word_of(move, limit=limit), word)

    def test_limits_0_and_1(self):
        self.assertEqual(word_of(IDENTITY, limit=0), "")
        for word in ["s", "r", "R"]:
            self.assert_refuses(LimitExceeded, "limit", 0, word_of, move_of(word), limit=0)
            self.assertEqual(word_of(move_of(word), limit=1), word)
        for word in ["sr", "rs", "sR", "Rs"]:
            self.assert_refuses(LimitExceeded, "limit", 1, word_of, move_of(word), limit=1)

    def test_default_limit_is_60(self):
        for start in ["sr", "sR", "rs", "Rs"]:
            word = start * 30
            self.assertEqual(word_of(move_of(word)), word)
            longer = word + word[0]
            self.assert_refuses(LimitExceeded, "limit", 60, word_of, move_of(longer))
            self.assertEqual(word_of(move_of(longer), limit=61), longer)
            self.assert_refuses(LimitExceeded, "limit", 59, word_of, move_of(word), limit=59)

    def test_long_words_exactly(self):
        for blocks in ["rs", "sR", "rsRs", "srsRsR"]:
            word = (blocks * 2500)[:5000]
            move = move_of(word)
            self.assertEqual(word_of(move, limit=5000), word)
            self.assertEqual(word_of(move, limit=10**6), word)
            self.assert_refuses(LimitExceeded, "limit", 4999, word_of, move, limit=4999)
            self.assert_refuses(LimitExceeded, "limit", 60, word_of, move)

    def test_mixed_long_words(self):
        for drawn in some_words(20, 600, "srR"):
            word = reduce_word(drawn)
            move = move_of(word)
            self.assertEqual(word_of(move, limit=len(word)), word)
            if word:
                least = len(word) - 1
                self.assert_refuses(LimitExceeded, "limit", least, word_of, move, limit=least)

    def test_moves_of_any_size_without_delay(self):
        huge = 10**5000 + 1
        moves = [
            (1, huge, 0, 1),
            (1, -huge, 0, 1),
            (1, 0, huge, 1),
            (1, 0, -huge, 1),
            (0, 1, -1, huge),
            (huge, huge - 1, 1, 1),
            (huge, 1 - huge, -1, 1),
            (huge + 1, huge, huge + 2, huge + 1),
            product((huge, huge - 1, 1, 1), (1, 0, -(huge**2), 1)),
        ]
        with within(20):
            for move in moves:
                for limit in [0, 1, 60, 10**9, 10**4000]:
                    self.assert_refuses(LimitExceeded, "limit", limit, word_of, move, limit=limit)
                self.assert_refuses(LimitExceeded, "limit", 60, word_of, move)

    def test_long_words_of_huge_moves(self):
        word = "rsRs" * 12000
        with within(60):
            move = move_of(word)
            self.assertGreater(move[0], 10**5000)
            self.assertEqual(word_of(move, limit=48000), word)
            self.assert_refuses(LimitExceeded, "limit", 47999, word_of, move, limit=47999)
            self.assert_refuses(LimitExceeded, "limit", 60, word_of, move)

    def test_a_huge_limit_does_no_harm(self):
        with within(20):
            self.assertEqual(word_of((1, 3, 0, 1), limit=10**100), "rsrsrs")


if __name__ == "__main__":
    unittest.main()
