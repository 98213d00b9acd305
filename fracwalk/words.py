"""Words over the letters s, r, R, read in order of time, and the moves and values that they stand for."""

from fracwalk.errors import LimitExceeded, NotAWord, NotReduced
from fracwalk.moves import IDENTITY, INFINITY, act, in_form, product

KINDS = ("", "s", "r", "R")
LETTER_MOVES = {"s": (0, 1, -1, 0), "r": (0, 1, -1, -1), "R": (1, 1, -1, 0)}
LETTER_PRODUCTS = {"ss": "", "rr": "R", "RR": "r", "rR": "", "Rr": ""}
LETTER_INVERSES = {"s": "s", "r": "R", "R": "r"}


def multiply_kinds(one, other):
    """Return the kind to which two kinds multiply, or None."""
    if one == "" or other == "":
        return one + other
    return LETTER_PRODUCTS.get(one + other)


def require_word(value):
    """Return a reduced word as it is; raise NotAWord or NotReduced for anything else."""
    if not isinstance(value, str) or not all([letter in LETTER_MOVES for letter in value]):
        raise NotAWord(value)
    for letter, following in zip(value, value[1:]):
        if multiply_kinds(letter, following) is not None:
            raise NotReduced(value)
    return value


def is_word(value):
    """Tell whether any value is a reduced word."""
    try:
        require_word(value)
    except (NotAWord, NotReduced):
        return False
    return True


def reduce_word(word):
    """Return the reduced word with the move of a word."""
    letters = []
    for letter in word:
        kind = multiply_kinds(letters[-1], letter) if letters else None
        if kind is None:
            letters.append(letter)
        else:
            # No further step back is needed: the letter before the one that goes
            # differs from it in sort, and so from the kind that takes its place.
            letters.pop()
            if kind != "":
                letters.append(kind)
    return "".join(letters)


def join_words(one, other):
    """Return the reduced word that does one word, then the other one."""
    return reduce_word(one + other)


def inverse_word(word):
    """Return the reduced word that undoes a reduced word."""
    return "".join([LETTER_INVERSES[letter] for letter in word[::-1]])


def move_of(word):
    """Return the move of a word."""
    move = IDENTITY
    for letter in word:
        move = product(move, LETTER_MOVES[letter])
    return move


def word_of(move, *, limit=60):
    """Return the reduced word of a move; raise LimitExceeded if it has more than limit letters."""
    start, core, cut = _framed_core(move)
    return _written_word(start, _runs_of_core(core, limit), cut, limit)


def value_of(word):
    """Return the value to which a word takes infinity."""
    return act(move_of(word), INFINITY)


def value_word(value, *, limit=60):
    """Return the value word of a value; raise LimitExceeded if it has more than limit letters."""
    p, q = value
    if q == 0:
        return _written_word("", [], 0, limit)
    if p < 0:
        # Its last letter is r or R. With an s behind it, the word would lead to -q/p.
        return _written_word("s", _runs_to_fraction(q, -p, limit), 1, limit)
    return _written_word("s", _runs_to_fraction(p, q, limit), 0, limit)


# The words of moves and values are found as runs of two blocks: rs, which is x + 1, and Rs,
# which is x / (x + 1). A pair (letter, count) stands for count blocks that begin with the letter.
# Counting whole runs by divisions keeps the work small however long the word would be.


def _framed_core(move):
    """Return (start, core, cut): the word is start, the blocks of core, less the last cut letters."""
    turn = LETTER_MOVES["s"]
    plain = in_form(move)
    turned = product(plain, turn)
    frames = [
        ("", plain, 0),
        ("s", product(turn, plain), 0),
        ("", turned, 1),
        ("s", product(turn, turned), 1),
    ]
    # The moves of blocks are those without a negative entry. One frame has such a move; only
    # for the words "" and "s" do two, and then the first of them is the one that cuts nothing.
    fitting = [frame for frame in frames if min(frame[1]) >= 0]
    return fitting[0]


def _runs_of_core(core, limit):
    """Return the runs of a move without negative entries, in order, or enough of them to pass the limit."""
    a, b, c, d = core
    runs = []
    letters = 0
    # A word may lack the last letter of its last block, so that limit + 1 letters may still fit.
    while (b > 0 or c > 0) and letters <= limit + 1:
        if b >= a:
            count = b // a
            b, d = b - count * a, d - count * c
            runs.append(("r", count))
        else:
            count = c // d
            a, c = a - count * b, c - count * d
            runs.append(("R", count))
        letters += 2 * count
    return runs


def _runs_to_fraction(p, q, limit):
    """Return the runs that lead from 0 to p/q >= 0, in order, or enough of them to pass the limit."""
    runs = []
    letters = 0
    while p > 0 and letters <= limit + 1:
        if p >= q:
            count = p // q
            p -= count * q
            runs.append(("r", count))
        else:
            # Going back from 1/n, one block less than q // p: it ends at 1, which x + 1 reaches from 0.
            count = (q - 1) // p
            q -= count * p
            runs.append(("R", count))
        letters += 2 * count
    return runs[::-1]


def _written_word(start, runs, cut, limit):
    """Return start and the blocks of the runs, less the last cut letters, if it is within the limit."""
    length = len(start) + 2 * sum([count for _, count in runs]) - cut
    if length > limit:
        raise LimitExceeded(limit)
    word = start + "".join([(letter + "s") * count for letter, count in runs])
    return word[:length]
