"""The bands between the cuts, and how they and the lines hang together as one tree (points 18 and 19)."""

from heightrings.cells import cells, corners, neighbours, points
from heightrings.errors import TooSteep
from heightrings.gates import gate_points
from heightrings.lines import lines
from heightrings.regions import indexes
from heightrings.tables import ask_table, span

STEEPEST = 9


def nodes_at(rows, height):
    """The sorted list of the nodes at a height; none beyond the span."""
    ask_table(rows)
    least, greatest = span(rows)
    if not least <= height <= greatest:
        return []
    regions_at = both_regions(rows, height)
    below = [pair_beside(rows, path, regions_at) for word, path in lines(rows, height - 1)]
    above = [pair_beside(rows, path, regions_at) for word, path in lines(rows, height)]
    told = []
    for pair in pairs(rows, height, regions_at):
        on_height = points_of(rows, height, pair, regions_at)
        in_band = cells_of(rows, height, pair, regions_at)
        told.append((height, places_of(pair, below), places_of(pair, above), on_height, in_band))
    return sorted(told)


def tree(rows):
    """The list of all nodes, by rising heights."""
    ask_table(rows)
    least, greatest = span(rows)
    if greatest - least > STEEPEST:
        raise TooSteep("the heights are too far apart")
    return [node for height in range(least, greatest + 1) for node in nodes_at(rows, height)]


def word_of(node):
    """What befalls the lines at a node."""
    height, below, above, on_height, in_band = node
    if not below:
        return "birth" if above else "all"
    if not above:
        return "end"
    if len(above) == 1:
        return "on" if len(below) == 1 else "joining"
    return "parting" if len(below) == 1 else "knot"


def both_regions(rows, height):
    """For each point the index of its region at the cut beneath the height, and of that at the cut above it."""
    lower = indexes(rows, height - 1)
    upper = indexes(rows, height)
    return {point: (lower[point], upper[point]) for point in points(rows)}


def pairs(rows, height, regions_at):
    """The pairs of a high region beneath and a low region above between which there is a node."""
    found = {}
    for x, y in points(rows):
        if rows[y][x] >= height:
            for a, b in neighbours(rows, x, y) + [(x, y)]:
                if rows[b][a] <= height:
                    found[(regions_at[(x, y)][0], regions_at[(a, b)][1])] = True
    return list(found)


def pair_beside(rows, path, regions_at):
    """The pair of regions to the left and to the right of a line."""
    # A low region of the cut beneath lies in one of the cut above, a high one of the cut above in one of the cut
    # beneath: so the points of the line's first gate tell both.
    low, high = sorted(gate_points(path[0]), key=lambda point: rows[point[1]][point[0]])
    return (regions_at[high][0], regions_at[low][1])


def places_of(pair, some):
    """The rising tuple of the indexes at which the pair stands."""
    return tuple([at for at, other in enumerate(some) if other == pair])


def points_of(rows, height, pair, regions_at):
    """The sorted tuple of the points of the height in both regions."""
    return tuple([(x, y) for x, y in points(rows) if rows[y][x] == height and regions_at[(x, y)] == pair])


def cells_of(rows, height, pair, regions_at):
    """The sorted tuple of the cells whose middle lies in the band, with a corner in each region."""
    return tuple([cell for cell in cells(rows) if has_middle_at(rows, height, cell) and spans(cell, pair, regions_at)])


def has_middle_at(rows, height, cell):
    """Whether a cell's middle lies in the band."""
    x, y = cell
    return 4 * height - 2 <= sum([rows[b][a] for a, b in corners(x, y)]) < 4 * height + 2


def spans(cell, pair, regions_at):
    """Whether a cell has a corner in the pair's first region and a corner in its second."""
    x, y = cell
    high, low = pair
    beside = [regions_at[corner] for corner in corners(x, y)]
    return high in [lower for lower, upper in beside] and low in [upper for lower, upper in beside]
