"""The peaks of a table, and the passes that lead to higher ones (point 20)."""

from heightrings.bands import tree, word_of
from heightrings.regions import all_joined
from heightrings.tables import ask_table, span


def peaks(rows):
    """The list of all peaks as tuples (points, height, pass), sorted by points."""
    ask_table(rows)
    told = []
    for node in tree(rows):
        if word_of(node) in ("end", "all"):
            height, below, above, top, in_band = node
            told.append((top, height, pass_of(rows, height, top[0])))
    return sorted(told, key=lambda peak: peak[0])


def pass_of(rows, height, point):
    """The greatest cut at which a peak's region has a higher point; None for the highest ones."""
    least, greatest = span(rows)
    # At the cut beneath the least height all is one region: below that nothing more is found.
    for cut in range(height - 1, least - 2, -1):
        if max([rows[y][x] for x, y in all_joined(rows, cut, point)]) > height:
            return cut
    return None
