"""The regions that the lines of a cut part, and which of them lie beside each line (points 13 and 14)."""

from heightrings.cells import cells_at, neighbours, points
from heightrings.gates import ask_point, gate_points, has_high_middle, is_crossed, stands_high
from heightrings.lines import lines
from heightrings.tables import ask_table


def regions(rows, cut):
    """The list of all regions of the cut, sorted by their points."""
    ask_table(rows)
    told = []
    placed = set()
    # The points are walked sorted, so each region is found by its least point, and they come sorted.
    for point in points(rows):
        if point not in placed:
            within = all_joined(rows, cut, point)
            told.append(("high" if stands_high(rows, cut, point) else "low", within))
            for other in within:
                placed.add(other)
    return told


def region_of(rows, cut, x, y):
    """The index of the region that a point is of."""
    ask_table(rows)
    ask_point(rows, x, y)
    return indexes(rows, cut)[(x, y)]


def sides(rows, cut):
    """For each line the indexes of the high region to its left and of the low one to its right."""
    ask_table(rows)
    places = indexes(rows, cut)
    told = []
    for word, path in lines(rows, cut):
        # All gates of a line have the same two regions beside them: the first one tells them.
        first, second = gate_points(path[0])
        if stands_high(rows, cut, first):
            told.append((places[first], places[second]))
        else:
            told.append((places[second], places[first]))
    return told


def indexes(rows, cut):
    """For each point the index of its region."""
    places = {}
    for at, (word, within) in enumerate(regions(rows, cut)):
        for point in within:
            places[point] = at
    return places


def all_joined(rows, cut, start):
    """The sorted tuple of all points that hang together with one."""
    found = {start: True}
    waiting = [start]
    while waiting:
        point = waiting.pop()
        for other in joined(rows, cut, point):
            if other not in found:
                found[other] = True
                waiting.append(other)
    return tuple(sorted(found))


def joined(rows, cut, point):
    """The points that are straight of one region with a point."""
    x, y = point
    high = stands_high(rows, cut, point)
    beside = [other for other in neighbours(rows, x, y) if stands_high(rows, cut, other) == high]
    # In a cell with four open gates the corners that are like its middle hang together through it.
    aslant = [
        (2 * a + 1 - x, 2 * b + 1 - y)
        for a, b in cells_at(rows, x, y)
        if is_crossed(rows, cut, (a, b)) and has_high_middle(rows, cut, (a, b)) == high
    ]
    return beside + aslant
