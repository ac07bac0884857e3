"""Webs: lines of points laid over one another, and where their segments meet (point 21).

A segment is a tuple (key, start, end), its key the tuple of its line's index and its own.
"""


def meeting(web):
    """The least meeting (k, i, l, j) of a web; None where it is clean."""
    some = segments(web)
    for at, one in enumerate(some):
        for other in some[at:]:
            if meets(web, one, other):
                return one[0] + other[0]
    return None


def segments(web):
    """All segments of a web, sorted by their keys."""
    found = []
    for k, (word, path) in enumerate(web):
        for i in range(many_segments(word, path)):
            found.append(((k, i), path[i], path[(i + 1) % len(path)]))
    return found


def many_segments(word, path):
    """How many segments a line has."""
    return len(path) if word == "ring" else len(path) - 1


def meets(web, one, other):
    """Whether a segment and one that doesn't lie ahead of it, maybe itself, make a meeting."""
    first, a, b = one
    second, c, d = other
    if first == second:
        return a == b
    if first[0] == second[0] and first[1] + 1 == second[1]:
        return turns_back(a, b, d)
    if closes(web, first, second):
        return turns_back(c, d, b)
    return touches(a, b, c, d)


def closes(web, first, second):
    """Whether the second key is that of the last segment of the ring whose first segment has the first key."""
    word, path = web[second[0]]
    return word == "ring" and first == (second[0], 0) and second[1] == len(path) - 1


def turns_back(ahead, between, behind):
    """Whether the segments to a point and on from it have more in common than the point."""
    if turn(ahead, between, behind) != 0:
        return False
    (a, b), (x, y), (c, d) = ahead, between, behind
    return (a - x) * (c - x) + (b - y) * (d - y) > 0


def turn(a, b, c):
    """Above 0, below 0 or 0 where c lies on the one side of the way from a to b, on the other, or straight on it."""
    return (b[0] - a[0]) * (c[1] - a[1]) - (b[1] - a[1]) * (c[0] - a[0])


def touches(a, b, c, d):
    """Whether the segments from a to b and from c to d have a place in common."""
    if apart(a[0], b[0], c[0], d[0]) or apart(a[1], b[1], c[1], d[1]):
        return False
    return turn(a, b, c) * turn(a, b, d) <= 0 and turn(c, d, a) * turn(c, d, b) <= 0


def apart(a, b, c, d):
    """Whether the numbers from a to b and those from c to d have none in common."""
    return max(a, b) < min(c, d) or max(c, d) < min(a, b)


def lies_near(point, start, end, bound):
    """Whether a point lies no farther than the bound from the segment from start to end, maybe a single point."""
    (x, y), (a, b), (c, d) = point, start, end
    squared = (c - a) ** 2 + (d - b) ** 2
    along = (x - a) * (c - a) + (y - b) * (d - b)
    if along <= 0:
        return (x - a) ** 2 + (y - b) ** 2 <= bound ** 2
    if along >= squared:
        return (x - c) ** 2 + (y - d) ** 2 <= bound ** 2
    # The turn is how far it lies off times how long the segment is: squared, both stay whole.
    return turn(start, end, point) ** 2 <= bound ** 2 * squared
