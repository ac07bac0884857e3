"""Gates of a table at a cut: which are open, how cells tie them, how a line goes through them (points 7 to 10).

is_high, gates, ties and goes look at what is handed in; the other defs are for askers that have done so.
"""

from heightrings.cells import corners, has_cell, has_point, points
from heightrings.errors import NoGate, NoPoint
from heightrings.tables import ask_table

# From a gate's own x and y to the cell that a line comes into through it, and to the one that it comes from.
AHEAD = {"down": (0, 0), "up": (0, -1), "right": (0, 0), "left": (-1, 0)}
BEHIND = {"down": (0, -1), "up": (0, 0), "right": (-1, 0), "left": (0, 0)}


def is_high(rows, cut, x, y):
    """Whether a point is high at the cut."""
    ask_table(rows)
    ask_point(rows, x, y)
    return stands_high(rows, cut, (x, y))


def gates(rows, cut):
    """The sorted list of all open gates."""
    ask_table(rows)
    sides = [(x, y, way) for x, y in points(rows) for way in (0, 1)]
    return [gate for gate in sides if is_open(rows, cut, gate)]


def ties(rows, cut, x, y):
    """The sorted list of the pairs of gates that a cell ties."""
    ask_table(rows)
    if not has_cell(rows, x, y):
        raise NoPoint("no cell of the table")
    return cell_ties(rows, cut, (x, y))


def goes(rows, cut, gate):
    """How a line goes through a gate: down, up, right or left, with the high point to its left."""
    ask_table(rows)
    ask_gate(rows, cut, gate)
    return heading(rows, cut, gate)


def ask_point(rows, x, y):
    """Refuses what is no point of the table."""
    if not has_point(rows, x, y):
        raise NoPoint("no point of the table")


def ask_gate(rows, cut, gate):
    """Refuses what is no open gate of the table."""
    if not is_open(rows, cut, gate):
        raise NoGate("no open gate of the table")


def stands_high(rows, cut, point):
    """Whether a point of the table is high."""
    x, y = point
    return rows[y][x] > cut


def gate_points(gate):
    """The two points that a gate lies between."""
    x, y, way = gate
    if way == 0:
        return [(x, y), (x + 1, y)]
    return [(x, y), (x, y + 1)]


def has_gate(rows, gate):
    """Whether it is a gate of the table."""
    if gate[2] not in (0, 1):
        return False
    return all([has_point(rows, x, y) for x, y in gate_points(gate)])


def is_open(rows, cut, gate):
    """Whether it is a gate of the table that is open."""
    if not has_gate(rows, gate):
        return False
    first, second = gate_points(gate)
    return stands_high(rows, cut, first) != stands_high(rows, cut, second)


def cell_gates(cell):
    """The four gates of a cell, sorted: above, left, below, right."""
    x, y = cell
    return [(x, y, 0), (x, y, 1), (x, y + 1, 0), (x + 1, y, 1)]


def is_crossed(rows, cut, cell):
    """Whether all four gates of a cell are open."""
    return all([is_open(rows, cut, gate) for gate in cell_gates(cell)])


def has_high_middle(rows, cut, cell):
    """Whether a cell's middle is high."""
    x, y = cell
    return sum([rows[b][a] for a, b in corners(x, y)]) >= 4 * cut + 2


def cell_ties(rows, cut, cell):
    """The ties of a cell of the table."""
    if is_crossed(rows, cut, cell):
        return crossed_ties(rows, cut, cell)
    through = [gate for gate in cell_gates(cell) if is_open(rows, cut, gate)]
    return [(through[0], through[1])] if through else []


def crossed_ties(rows, cut, cell):
    """The ties of a cell with four open gates: they cut off the corners that are unlike its middle."""
    above, left, below, right = cell_gates(cell)
    if stands_high(rows, cut, cell) == has_high_middle(rows, cut, cell):
        return [(above, right), (left, below)]
    return [(above, left), (below, right)]


def heading(rows, cut, gate):
    """How a line goes through an open gate."""
    x, y, way = gate
    near_is_high = stands_high(rows, cut, (x, y))
    if way == 0:
        return "up" if near_is_high else "down"
    return "right" if near_is_high else "left"


def cell_ahead(rows, cut, gate):
    """The cell, be it the table's or not, into which a line goes through an open gate."""
    across, down = AHEAD[heading(rows, cut, gate)]
    return (gate[0] + across, gate[1] + down)


def comes_in(rows, cut, gate):
    """Whether a line comes into the table by an open gate."""
    across, down = BEHIND[heading(rows, cut, gate)]
    return not has_cell(rows, gate[0] + across, gate[1] + down)


def gate_ahead(rows, cut, gate):
    """The gate to which a line goes on from an open one; None where it ends."""
    x, y = cell_ahead(rows, cut, gate)
    if not has_cell(rows, x, y):
        return None
    partners = {}
    for one, other in cell_ties(rows, cut, (x, y)):
        partners[one] = other
        partners[other] = one
    return partners[gate]
