"""The areas of regions and of rings, as fractions (point 17)."""

from heightrings.cells import cells, corners
from heightrings.errors import NoRing
from heightrings.fractions import shortened, total
from heightrings.gates import cell_gates, has_high_middle, is_crossed, is_open, stands_high
from heightrings.places import place_of
from heightrings.regions import indexes, regions
from heightrings.tables import ask_table


def region_areas(rows, cut):
    """The areas of the cut's regions, in their order."""
    ask_table(rows)
    region_at = indexes(rows, cut)
    parts = [[] for region in regions(rows, cut)]
    for cell in cells(rows):
        for piece in pieces(rows, cut, cell):
            parts[region_at[piece[0]]].append(field_area(outline(rows, cut, cell, piece)))
    return [total(some) for some in parts]


def ring_area(rows, cut, line):
    """The area of the field that a ring of the cut goes round."""
    ask_table(rows)
    word, path = line
    if word != "ring":
        raise NoRing("no ring")
    return field_area([place_of(rows, cut, gate) for gate in path])


def pieces(rows, cut, cell):
    """The pieces that a cell falls into, each as the list of its corners."""
    x, y = cell
    highs = [corner for corner in corners(x, y) if stands_high(rows, cut, corner)]
    lows = [corner for corner in corners(x, y) if not stands_high(rows, cut, corner)]
    if not is_crossed(rows, cut, cell):
        return [piece for piece in (highs, lows) if piece]
    # The corners that are cut off may be of one region elsewhere, but here each is a piece by itself.
    if has_high_middle(rows, cut, cell):
        return [highs] + [[corner] for corner in lows]
    return [lows] + [[corner] for corner in highs]


def outline(rows, cut, cell, piece):
    """The places that are the corners of a piece of a cell, in the order in which they go round it."""
    x, y = cell
    above, left, below, right = cell_gates(cell)
    start = corners(x, y)
    end = start[1:] + start[:1]
    found = []
    for corner, gate, after in zip(start, [above, right, below, left], end):
        if corner in piece:
            found.append((corner[0], corner[1], 1))
        if is_open(rows, cut, gate) and (corner in piece or after in piece):
            found.append(place_of(rows, cut, gate))
    return found


def field_area(around):
    """The area of the field with these places as corners."""
    after = around[1:] + around[:1]
    top, bottom = total([(a * d - b * c, v * w) for (a, b, v), (c, d, w) in zip(around, after)])
    return shortened(abs(top), 2 * bottom)
