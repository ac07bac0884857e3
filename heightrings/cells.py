"""What a good table is made of: its points, their neighbours, its cells (point 4).

Nothing here looks at whether rows is a table: the asker has done so.
"""


def size(rows):
    """How wide and how high the table is."""
    return (len(rows[0]), len(rows))


def points(rows):
    """All points of the table, sorted."""
    wide, tall = size(rows)
    return [(x, y) for x in range(wide) for y in range(tall)]


def has_point(rows, x, y):
    """Whether (x, y) is a point of the table."""
    wide, tall = size(rows)
    return 0 <= x < wide and 0 <= y < tall


def neighbours(rows, x, y):
    """The sorted neighbours of a point."""
    beside = [(x - 1, y), (x, y - 1), (x, y + 1), (x + 1, y)]
    return [(a, b) for a, b in beside if has_point(rows, a, b)]


def cells(rows):
    """All cells of the table, sorted."""
    wide, tall = size(rows)
    return [(x, y) for x in range(wide - 1) for y in range(tall - 1)]


def has_cell(rows, x, y):
    """Whether (x, y) is a cell of the table."""
    return has_point(rows, x, y) and has_point(rows, x + 1, y + 1)


def corners(x, y):
    """The four corners of a cell, in the order in which they go round it."""
    return [(x, y), (x + 1, y), (x + 1, y + 1), (x, y + 1)]


def cells_at(rows, x, y):
    """The sorted cells that have the point as a corner."""
    around = [(x - 1, y - 1), (x - 1, y), (x, y - 1), (x, y)]
    return [(a, b) for a, b in around if has_cell(rows, a, b)]
