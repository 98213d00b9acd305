"""What several tests share: slow but plain references, and samples of values."""

import contextlib
import copy
import itertools
import math
import signal
import unittest

LETTER_MAPS = {
    "s": ((0, 1), (-1, 0)),
    "r": ((0, 1), (-1, -1)),
    "R": ((1, 1), (-1, 0)),
}

# Values of every kind that are no move, no value and no word.
STRANGE_VALUES = [
    None,
    True,
    False,
    0,
    1,
    10**59,
    (),
    [],
    {},
    (None,),
    [1, 0],
    [1, 0, 0, 1],
    {"word": ["s"]},
    {1: 0},
    ([1, 0, 0, 1],),
    ((1, 0), (0, 1)),
    ("s", "r"),
    ["s"],
]


def reduced_words(longest):
    """All reduced words of at most this many letters."""
    words = [""]
    for length in range(1, longest + 1):
        for first_is_turn in (True, False):
            places = [
                "s" if (place % 2 == 0) == first_is_turn else "rR" for place in range(length)
            ]
            words.extend("".join(letters) for letters in itertools.product(*places))
    return words


def begins_as_value_word(word):
    return word in ("", "s") or word.startswith("sr")


def matrix_of(word):
    """The matrix of a word, up to its sign, by multiplying rows with columns."""
    rows = ((1, 0), (0, 1))
    for letter in word:
        left = LETTER_MAPS[letter]
        rows = tuple(
            tuple(sum(left[i][k] * rows[k][j] for k in range(2)) for j in range(2))
            for i in range(2)
        )
    return rows[0] + rows[1]


def in_form(entries):
    """The entries, all with the sign that makes the first nonzero one positive."""
    first = next(entry for entry in entries if entry != 0)
    return tuple(entries) if first > 0 else tuple(-entry for entry in entries)


def negated(entries):
    return tuple(-entry for entry in entries)


def reduced_slowly(word):
    """Replace the first two neighbours that multiply, until there are none."""
    products = {"ss": "", "rr": "R", "RR": "r", "rR": "", "Rr": ""}
    at = 0
    while at < len(word) - 1:
        pair = word[at : at + 2]
        if pair in products:
            word = word[:at] + products[pair] + word[at + 2 :]
            at = 0
        else:
            at += 1
    return word


def small_values(most):
    """Infinity and all fractions with numerator and denominator up to most."""
    values = [(1, 0)]
    for q in range(1, most + 1):
        values.extend((p, q) for p in range(-most, most + 1) if math.gcd(p, q) == 1)
    return values


@contextlib.contextmanager
def within(seconds):
    """Fail if the rows inside take longer, rather than let the tests hang."""

    def stop(number, frame):
        raise AssertionError(f"took more than {seconds} seconds")

    before = signal.signal(signal.SIGALRM, stop)
    signal.setitimer(signal.ITIMER_REAL, seconds)
    try:
        yield
    finally:
        signal.setitimer(signal.ITIMER_REAL, 0)
        signal.signal(signal.SIGALRM, before)


class Case(unittest.TestCase):
    """A test case that also looks at the attributes of errors."""

    def assert_refuses(self, error, name, kept, call, *args, **more):
        """The call raises exactly this error, which keeps this very value under the name."""
        before = copy.deepcopy((args, more))
        with self.assertRaises(error) as caught:
            call(*args, **more)
        self.assertIs(type(caught.exception), error)
        found = getattr(caught.exception, name)
        self.assertIs(type(found), type(kept))
        self.assertEqual(found, kept)
        self.assertEqual((args, more), before)
        return caught.exception
