"""The web of a table: its lines at their exact places, made whole by a scale, and its points as pins (point 22)."""

from heightrings.cells import neighbours, points
from heightrings.fractions import common
from heightrings.lines import lines
from heightrings.places import place_of
from heightrings.tables import ask_table


def scale_of(rows):
    """The least number that makes the places of all gates at all cuts whole."""
    ask_table(rows)
    scale = 1
    for x, y in points(rows):
        for a, b in neighbours(rows, x, y):
            by = 2 * abs(rows[y][x] - rows[b][a])
            if by:
                scale = scale // common(scale, by) * by
    return scale


def web_of(rows, cuts):
    """The lines of some cuts, cut by cut, with their places times the scale."""
    ask_table(rows)
    scale = scale_of(rows)
    return [
        (word, tuple([scaled_place(rows, cut, gate, scale) for gate in path]))
        for cut in cuts
        for word, path in lines(rows, cut)
    ]


def scaled_place(rows, cut, gate, scale):
    """The place of an open gate, times the scale."""
    x, y, by = place_of(rows, cut, gate)
    return (x * scale // by, y * scale // by)


def pins_of(rows):
    """The table's points times the scale, sorted."""
    ask_table(rows)
    scale = scale_of(rows)
    return [(x * scale, y * scale) for x, y in points(rows)]
