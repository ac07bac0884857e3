"""The looker: reads lines that are handed in, gate by gate, and makes none (point 12)."""

from heightrings.gates import comes_in, gate_ahead, gates, is_open
from heightrings.tables import ask_table


def first_wrong(rows, cut, some):
    """None where these are just the lines of the cut; else the first wrong one's index, or how many there are."""
    ask_table(rows)
    seen = {}
    for at, line in enumerate(some):
        if not is_line(rows, cut, line) or shares_gate(line, seen):
            return at
        for gate in line[1]:
            seen[gate] = True
    # All that was seen is open and was seen once, so like numbers mean that no gate lacks.
    return None if len(seen) == len(gates(rows, cut)) else len(some)


def shares_gate(line, seen):
    """Whether a gate of the line was seen in one ahead."""
    return any([gate in seen for gate in line[1]])


def is_line(rows, cut, line):
    """Whether it is one of the lines of the cut, told as they are told."""
    word, path = line
    if not path or len(set(path)) < len(path):
        return False
    if not all_open(rows, cut, path) or not goes_on(rows, cut, path):
        return False
    if word == "ring":
        return is_closed(rows, cut, path)
    return word == "run" and is_from_edge_to_edge(rows, cut, path)


def all_open(rows, cut, path):
    """Whether each of the gates is open."""
    for gate in path:
        if not is_open(rows, cut, gate):
            return False
    return True


def goes_on(rows, cut, path):
    """Whether each open gate but the last goes on to the next."""
    return all([gate_ahead(rows, cut, gate) == after for gate, after in zip(path, path[1:])])


def is_closed(rows, cut, path):
    """Whether the gates come back and begin with the least."""
    return gate_ahead(rows, cut, path[-1]) == path[0] and path[0] == min(path)


def is_from_edge_to_edge(rows, cut, path):
    """Whether the gates come in at the table's edge and go out at it."""
    return comes_in(rows, cut, path[0]) and gate_ahead(rows, cut, path[-1]) is None
