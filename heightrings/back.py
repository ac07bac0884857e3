"""A table told back from its lines at all cuts (point 25).

The lines tell which gates are open, and so which points are unlike; how they go tells which of these are high. So no
more than one table can have them, and the looker tells whether it does.
"""

from heightrings.errors import NoBack
from heightrings.gates import cell_ahead, cell_gates, is_open
from heightrings.looker import first_wrong
from heightrings.tables import FEWEST, GREATEST, LEAST, MOST


def told_back(w, h, base, cuts):
    """The table whose lines at the cuts from the base on are just the handed ones."""
    if not is_size(w, h) or base < LEAST or base + len(cuts) > GREATEST:
        raise NoBack("no table is of this size or has these heights")
    highs = [high_points(w, h, some) for some in cuts]
    rows = [[base + sum([high[y][x] for high in highs]) for x in range(w)] for y in range(h)]
    for k, some in enumerate(cuts):
        if first_wrong(rows, base + k, some) is not None:
            raise NoBack("no table has these lines")
    return rows


def is_size(w, h):
    """Whether a table may be so wide and so high."""
    return FEWEST <= w <= MOST and FEWEST <= h <= MOST


def high_points(w, h, some):
    """A table with 1 at the high points and 0 at the low ones of a cut, as its lines tell them."""
    if not some or len(some[0][1]) < 2:
        raise NoBack("a cut has no line, or a line has no way")
    unlike = unlike_points(w, h, some)
    word, path = some[0]
    if not is_open(unlike, 0, path[0]):
        raise NoBack("the gates part nothing")
    # Were the first point low, the line would go this way; where it goes the other way, all is the other way round.
    if path[1] in cell_gates(cell_ahead(unlike, 0, path[0])):
        return unlike
    return [[1 - side for side in row] for row in unlike]


def unlike_points(w, h, some):
    """A table with 0 at the points that are like the first one at a cut, and 1 at the others."""
    passed = {gate: True for word, path in some for gate in path}
    return [[gates_on_the_way(x, y, passed) % 2 for x in range(w)] for y in range(h)]


def gates_on_the_way(x, y, passed):
    """How many of the gates are passed on the way from the first point along its row, then down to (x, y)."""
    way = [(k, 0, 0) for k in range(x)] + [(x, k, 1) for k in range(y)]
    return len([gate for gate in way if gate in passed])
