"""A search for the nearest goal, step by step of equal length."""


def search(source, steps_from, is_goal):
    """Return (reached, path): all nodes met on the way, and the steps (letter, node) to a nearest goal, or None.

    The source itself is no goal; it may be one at the end of a way back to it.
    """
    came = {source: None}
    level = [source]
    while level:
        further = []
        for node in level:
            for letter, after in steps_from(node):
                if is_goal(after):
                    return (list(came), _steps_to(node, came) + [(letter, after)])
                if after not in came:
                    came[after] = (node, letter)
                    further.append(after)
        level = further
    return (list(came), None)


def _steps_to(node, came):
    """Return the steps by which a node was met, in order."""
    steps = []
    while came[node] is not None:
        before, letter = came[node]
        steps.append((letter, node))
        node = before
    return steps[::-1]
