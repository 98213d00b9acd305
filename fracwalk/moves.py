"""Moves x -> (a x + b) / (c x + d) as tuples (a, b, c, d), and values as pairs (p, q)."""

from math import gcd

from fracwalk.errors import NotAMove, NotAValue

IDENTITY = (1, 0, 0, 1)
INFINITY = (1, 0)


def is_integer(value):
    """Tell whether a value is an int that is not a bool."""
    return isinstance(value, int) and not isinstance(value, bool)


def is_tuple_of(value, length):
    """Tell whether a value is a tuple of so many items."""
    return isinstance(value, tuple) and len(value) == length


def is_row_of_integers(value, length):
    """Tell whether a value is a tuple of so many integers."""
    return is_tuple_of(value, length) and all([is_integer(entry) for entry in value])


def in_form(move):
    """Return the move with its first nonzero entry positive."""
    a, b, c, d = move
    if a < 0 or (a == 0 and b < 0):
        return (-a, -b, -c, -d)
    return (a, b, c, d)


def require_move(value):
    """Return a move in its form; raise NotAMove for anything else."""
    if not is_row_of_integers(value, 4):
        raise NotAMove(value)
    a, b, c, d = value
    if a * d - b * c != 1:
        raise NotAMove(value)
    return in_form(value)


def require_value(value):
    """Return a value as it is; raise NotAValue for anything else."""
    if not is_row_of_integers(value, 2):
        raise NotAValue(value)
    p, q = value
    if value != INFINITY and (q <= 0 or gcd(p, q) != 1):
        raise NotAValue(value)
    return value


def product(first, then):
    """Return the move that does the first one, then the second one."""
    a, b, c, d = first
    e, f, g, h = then
    return in_form((e * a + f * c, e * b + f * d, g * a + h * c, g * b + h * d))


def inverse_move(move):
    """Return the move that undoes a move."""
    a, b, c, d = move
    return in_form((d, -b, -c, a))


def act(move, value):
    """Return the value to which a move takes a value."""
    a, b, c, d = move
    p, q = value
    over = a * p + b * q
    under = c * p + d * q
    if under < 0 or (under == 0 and over < 0):
        return (-over, -under)
    return (over, under)
