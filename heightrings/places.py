"""The exact places at which lines go through gates (point 16)."""

from heightrings.fractions import shortened
from heightrings.gates import ask_gate, gate_points
from heightrings.tables import ask_table


def place(rows, cut, gate):
    """Where an open gate has the cut's number and a half: (X, Y, W) stands for X by W, Y by W."""
    ask_table(rows)
    ask_gate(rows, cut, gate)
    return place_of(rows, cut, gate)


def place_of(rows, cut, gate):
    """The place of what is an open gate of the table."""
    x, y, way = gate
    part, whole = share(rows, cut, gate)
    # No number above 1 divides both part and whole, so none divides all three.
    if way == 0:
        return (x * whole + part, y * whole, whole)
    return (x * whole, y * whole + part, whole)


def share(rows, cut, gate):
    """The fraction of the way from an open gate's first point to its second that lies ahead of the place."""
    first, second = [rows[y][x] for x, y in gate_points(gate)]
    return shortened(2 * cut + 1 - 2 * first, 2 * (second - first))
