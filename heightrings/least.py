"""One line alone, kept by as few of its places as can be (point 24)."""

from heightrings.webs import lies_near


def least_kept(points, bound):
    """The least number of places that keep a run of points within the bound, and so many such places."""
    # Of the way to each place alone it is kept how few places it takes, and which is the last but one of them.
    fewest = [1]
    last_ahead = [None]
    for at in range(1, len(points)):
        usable = [start for start in range(at) if spans(points, start, at, bound)]
        best = min(usable, key=lambda start: fewest[start])
        fewest.append(fewest[best] + 1)
        last_ahead.append(best)
    return (fewest[-1], way_to_the_end(last_ahead))


def spans(points, start, end, bound):
    """Whether the segment between two places lies near all points between them."""
    for point in points[start + 1:end]:
        if not lies_near(point, points[start], points[end], bound):
            return False
    return True


def way_to_the_end(last_ahead):
    """The places from the first to the last, found backward."""
    way = []
    at = len(last_ahead) - 1
    while at is not None:
        way.append(at)
        at = last_ahead[at]
    return way[::-1]
