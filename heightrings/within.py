"""What lies in which ring, found by walking out to the left (point 15)."""

from heightrings.lines import lines
from heightrings.tables import ask_table


def crossed(line, x, y):
    """How many of a line's gates are crossed on the way from a point out to the left."""
    word, path = line
    return len([k for k, row, way in path if way == 0 and row == y and k < x])


def holds(line, x, y):
    """Whether a point lies in a line: in a ring where it crosses it an odd number of times, in a run never."""
    return line[0] == "ring" and crossed(line, x, y) % 2 == 1


def lies_in(rows, cut):
    """For each line of the cut the rising tuple of the indexes of those lines in whose rings it lies."""
    ask_table(rows)
    told = lines(rows, cut)
    return [rings_round(told, at) for at in range(len(told))]


def rings_round(some, at):
    """The indexes of the other lines in whose rings a line lies."""
    # Both points of its first gate lie in another ring or neither does, so the nearer one tells it.
    x, y, way = some[at][1][0]
    return tuple([k for k, other in enumerate(some) if k != at and holds(other, x, y)])
