"""Tables of heights: which are good, and what becomes of them turned, mirrored and raised (points 5 and 6)."""

from heightrings.cells import size
from heightrings.errors import NoTable

FEWEST = 2
MOST = 7
LEAST = -(10 ** 9)
GREATEST = 10 ** 9


def ask_table(rows):
    """True for a table; NoTable with the first bad row's index, or -1 where the rows are too few or too many."""
    if not fits(rows):
        raise NoTable(-1)
    for at, row in enumerate(rows):
        if len(row) != len(rows[0]) or not is_row(row):
            raise NoTable(at)
    return True


def fits(things):
    """Whether a table may have so many rows, or a row so many heights."""
    return FEWEST <= len(things) <= MOST


def is_row(row):
    """Whether the row could stand in some table."""
    return fits(row) and LEAST <= min(row) and max(row) <= GREATEST


def turned(rows):
    """The table turned a quarter to the right."""
    ask_table(rows)
    wide, tall = size(rows)
    return [[rows[tall - 1 - x][y] for x in range(tall)] for y in range(wide)]


def mirrored(rows):
    """The table with left and right exchanged."""
    ask_table(rows)
    return [row[::-1] for row in rows]


def raised(rows, by):
    """The table with each height so much more."""
    ask_table(rows)
    higher = [[height + by for height in row] for row in rows]
    # Heights raised too far are no table, though the rows handed in are one.
    ask_table(higher)
    return higher


def span(rows):
    """The least and the greatest height."""
    ask_table(rows)
    return (min([min(row) for row in rows]), max([max(row) for row in rows]))
