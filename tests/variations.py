"""Values that are nearly a given one: one part exchanged, cut, doubled, moved or of another kind."""

STRANGE_PARTS = [
    None, True, False, 0, 1, -1, 2, 10**59, "", "s", "r", "R", "start", "first", "sr", (), [], {}, ("",), [0],
    (-1, 0), (-1, 1), (-2, 0), (-1, False), (-3, 1), ("s", (-1, 0)), ("", (-1, 0), (-1, 0), ("stay",)),
    {"a": [1]}, {("", (-1, 0), (-1, 0)): 0},
]


def varied(value, draw):
    """A value with one part varied, or two; the value itself is left as it is."""
    for _ in range(draw.choice([1, 1, 1, 2])):
        value = _varied_once(value, draw)
    return value


def _varied_once(value, draw):
    within = isinstance(value, (tuple, list, dict)) and len(value) > 0
    if not within or draw.random() < 0.25:
        return _exchanged(value, draw)
    if isinstance(value, dict):
        key = draw.choice(list(value))
        return {**value, key: _varied_once(value[key], draw)}
    at = draw.randrange(len(value))
    parts = list(value)
    parts[at] = _varied_once(parts[at], draw)
    return tuple(parts) if isinstance(value, tuple) else parts


def _exchanged(value, draw):
    if draw.random() < 0.1:
        return draw.choice(STRANGE_PARTS)
    if isinstance(value, bool):
        return not value
    if isinstance(value, int):
        return draw.choice([value + 1, value - 1, bool(value), -value, str(value), 2 * value + 1])
    if isinstance(value, str):
        at = draw.randint(0, len(value))
        return draw.choice([
            value[:at] + draw.choice("srR") + value[at:],
            value[:at] + value[at + 1 :],
            value[::-1],
            draw.choice(["", "s", "r", "R", "start", "first", "finite", "endless", "barred"]),
            list(value),
        ])
    if isinstance(value, (tuple, list)):
        return _rearranged(value, draw)
    if isinstance(value, dict):
        return _edited(value, draw)
    return draw.choice(STRANGE_PARTS)


def _rearranged(value, draw):
    parts = list(value)
    how = draw.randrange(7)
    if how == 0 and parts:
        parts.pop(draw.randrange(len(parts)))
    elif how == 1 and parts:
        parts.insert(draw.randint(0, len(parts)), draw.choice(parts))
    elif how == 2 and len(parts) > 1:
        one, other = draw.sample(range(len(parts)), 2)
        parts[one], parts[other] = parts[other], parts[one]
    elif how == 3:
        parts.insert(draw.randint(0, len(parts)), draw.choice(STRANGE_PARTS))
    elif how == 4:
        return parts if isinstance(value, tuple) else tuple(parts)
    elif how == 5 and len(parts) > 1:
        one, other = draw.sample(range(len(parts)), 2)
        parts[one] = parts[other]
    else:
        parts.reverse()
    return tuple(parts) if isinstance(value, tuple) else parts


def _edited(value, draw):
    keys = list(value)
    how = draw.randrange(5)
    if how == 0 or not keys:
        return {**value, draw.choice([None, 0, "a", ("", (-1, 5), (-1, 5)), ("", (-1, False), (-1, False))]): 0}
    key = draw.choice(keys)
    if how == 1:
        return {other: value[other] for other in keys if other != key}
    if how == 2 and isinstance(key, tuple):
        triple = tuple(draw.choice(keys)[at] if isinstance(key, tuple) else key for at in range(3))
        return {**value, triple: draw.randint(0, 9)}
    if how == 3:
        return [(key, value[key]) for key in keys]
    return {**value, key: draw.choice([value[key], 1, 0, -1, True, "0", None, [0]])}
