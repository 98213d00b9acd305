"""What the tests of programs share: plain references, and programs and traces that are drawn."""

from tests.checkers import is_reduced_word
from tests.helpers import reduced_slowly, reduced_words

WORDS = reduced_words(3)


def fault_at(program, parts, path=(), around=()):
    """The path to the first program at fault, with all parts looked through wherever they are used."""
    if not isinstance(program, tuple) or not program or not isinstance(program[0], str):
        return path
    form, rest = program[0], program[1:]
    if form == "move":
        fits = len(rest) == 2 and is_reduced_word(rest[0]) and len(rest[0]) <= 8
        return None if fits and type(rest[1]) is int and 0 <= rest[1] <= 9 else path
    if form not in ("row", "choice", "repeat", "part") or len(rest) != 1:
        return path
    if form == "part":
        name = rest[0]
        if type(name) is not str or name not in parts or name in around:
            return path
        return fault_at(parts[name], parts, path + (name,), around + (name,))
    if form == "repeat":
        return fault_at(rest[0], parts, path + (0,), around)
    if not isinstance(rest[0], tuple) or len(rest[0]) > 8:
        return path
    for at, inner in enumerate(rest[0]):
        found = fault_at(inner, parts, path + (at,), around)
        if found is not None:
            return found
    return None


def size(program, parts):
    """How many programs and moves there are with all parts copied, and how deep they are."""
    if program[0] == "move":
        return 1, 1, 1
    if program[0] == "part":
        sizes = [size(parts[program[1]], parts)]
    elif program[0] == "repeat":
        sizes = [size(program[1], parts)]
    else:
        sizes = [size(inner, parts) for inner in program[1]]
    return 1 + sum(one[0] for one in sizes), sum(one[1] for one in sizes), 1 + max([one[2] for one in sizes] + [0])


def plain_fault(program, parts):
    """The path that InvalidProgram has, or None."""
    if type(parts) is not dict or any(type(name) is not str for name in parts):
        return ()
    found = fault_at(program, parts)
    for name in sorted(parts):
        if found is None:
            found = fault_at(parts[name], parts, (name,), (name,))
    if found is None:
        programs, moves, depth = size(program, parts)
        if programs > 60 or moves > 8 or depth > 8:
            return ()
    return found


def plain_edges(program, parts):
    """The places and edges of the compiled machine, step by step as point 19 says."""
    edges = []
    places = [0, 1]

    def place():
        places.append(len(places))
        return places[-1]

    def lay(program, p, q):
        if program[0] == "move":
            edges.append((p, q, program[1], program[2]))
        elif program[0] == "row" and not program[1]:
            edges.append((p, q, "", 0))
        elif program[0] == "row":
            stops = [p] + [place() for _ in program[1][1:]] + [q]
            for at, inner in enumerate(program[1]):
                lay(inner, stops[at], stops[at + 1])
        elif program[0] == "choice":
            for inner in program[1]:
                lay(inner, p, q)
        elif program[0] == "repeat":
            middle = place()
            edges.append((p, middle, "", 0))
            lay(program[1], middle, middle)
            edges.append((middle, q, "", 0))
        else:
            lay(parts[program[1]], p, q)

    lay(program, 0, 1)
    return len(places), edges


def plain_walk(program, parts, trace):
    """(word, cost, number of edges) of a trace, letter by letter."""
    if program[0] == "move":
        return program[1], program[2], 1
    if program[0] == "part":
        return plain_walk(parts[program[1]], parts, trace[1])
    if program[0] == "choice":
        return plain_walk(program[1][trace[1]], parts, trace[2])
    if program[0] == "repeat":
        walks = [plain_walk(program[1], parts, way) for way in trace[1]]
        more = 2
    else:
        walks = [plain_walk(inner, parts, way) for inner, way in zip(program[1], trace[1])]
        more = 0 if program[1] else 1
    word = reduced_slowly("".join(walk[0] for walk in walks))
    return word, sum(walk[1] for walk in walks), more + sum(walk[2] for walk in walks)


def drawn_program(draw, names=(), deep=4):
    """A program of any size, within the limits or not."""
    form = draw.choice(["move", "row", "choice", "repeat", "part", "move"]) if deep > 1 else "move"
    if form == "part" and names:
        return ("part", draw.choice(names))
    if form == "repeat":
        return ("repeat", drawn_program(draw, names, deep - 1))
    if form in ("row", "choice"):
        return (form, tuple(drawn_program(draw, names, deep - 1) for _ in range(draw.choice([0, 1, 2, 2, 3]))))
    return ("move", draw.choice(WORDS), draw.randint(0, 9))


def drawn_parts(draw, count=3):
    """Parts of which each uses only those before it."""
    names = ["b", "a", "", "ab", "B"][:count]
    parts = {}
    for at, name in enumerate(names):
        parts[name] = drawn_program(draw, names[:at], 3)
    return parts


def drawn_trace(draw, program, parts):
    """A trace of a program, or None if a choice without programs is in the way."""
    if program[0] == "move":
        return ("move",)
    if program[0] == "part":
        inner = drawn_trace(draw, parts[program[1]], parts)
        return None if inner is None else ("part", inner)
    if program[0] == "choice":
        ways = [(at, drawn_trace(draw, inner, parts)) for at, inner in enumerate(program[1])]
        ways = [(at, way) for at, way in ways if way is not None]
        return ("choice", *draw.choice(ways)) if ways else None
    if program[0] == "repeat":
        ways = [drawn_trace(draw, program[1], parts) for _ in range(draw.choice([0, 1, 2, 3]))]
        return ("repeat", tuple(way for way in ways if way is not None))
    ways = [drawn_trace(draw, inner, parts) for inner in program[1]]
    return None if None in ways else ("row", tuple(ways))
