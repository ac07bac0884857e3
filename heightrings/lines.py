"""The lines of a cut: rings, and runs from edge to edge (point 11)."""

from heightrings.gates import ask_gate, comes_in, gate_ahead, gates
from heightrings.tables import ask_table


def lines(rows, cut):
    """The sorted list of all lines of the cut."""
    ask_table(rows)
    through = gates(rows, cut)
    # Runs first: then each gate that is left lies in a ring, and the first one left of a ring is its least.
    starts = [gate for gate in through if comes_in(rows, cut, gate)] + through
    told = []
    passed = set()
    for start in starts:
        if start not in passed:
            line = line_from(rows, cut, start)
            told.append(line)
            for gate in line[1]:
                passed.add(gate)
    return sorted(told)


def line_from(rows, cut, start):
    """The line that begins with an open gate."""
    path = [start]
    gate = gate_ahead(rows, cut, start)
    while gate is not None and gate != start:
        path.append(gate)
        gate = gate_ahead(rows, cut, gate)
    return ("run" if gate is None else "ring", tuple(path))


def line_at(rows, cut, gate):
    """The line through a gate."""
    ask_table(rows)
    ask_gate(rows, cut, gate)
    return [line for line in lines(rows, cut) if gate in line[1]][0]
