"""Thinned webs: points of lines let go without a crossing, a pin changing sides or a place too far off (point 23).

What is kept of a line is the rising list of the indexes of its kept points.
"""

from heightrings.errors import NoWeb
from heightrings.webs import lies_near, meeting, turn


def thinned(web, bound, pins):
    """The web with some points left out, so that no other one may go."""
    at = meeting(web)
    if at is not None:
        raise NoWeb(at)
    kept = [list(range(len(path))) for word, path in web]
    # A point that may not go may do so later, when others have gone out of its field.
    while let_go(web, kept, bound, pins):
        pass
    return [(word, tuple([path[i] for i in some])) for (word, path), some in zip(web, kept)]


def let_go(web, kept, bound, pins):
    """Lets each point go that may go then, one after another; whether any one went."""
    gone = False
    keys = kept_keys(kept)
    for key in keys:
        if may_go(web, kept, key, bound, pins):
            k, i = key
            kept[k].remove(i)
            gone = True
    return gone


def kept_keys(kept):
    """The keys (k, i) of all kept points, the point i of the line k each."""
    return [(k, i) for k, some in enumerate(kept) for i in some]


def may_go(web, kept, key, bound, pins):
    """Whether the kept point with this key may go."""
    k, i = key
    word, path = web[k]
    if not is_spare(word, kept[k], i):
        return False
    ahead, behind = kept_beside(kept[k], i)
    start, end = path[ahead], path[behind]
    for j in indexes_between(ahead, behind, len(path)):
        if not lies_near(path[j], start, end, bound):
            return False
    field = (start, path[i], end)
    # No two points of a clean web are alike, so a point is another one where it is unlike the three.
    others = [point for point in kept_points(web, kept) if point not in field]
    return not any([lies_in_field(point, field) for point in others + pins])


def is_spare(word, some, i):
    """Whether a line can do without a point: no end of a run, and none of a ring's last three."""
    if word == "ring":
        return len(some) > 3
    return i not in (some[0], some[-1])


def kept_beside(some, i):
    """The kept indexes ahead of one and behind it; in a ring the last one is ahead of the first."""
    at = some.index(i)
    return (some[at - 1], some[(at + 1) % len(some)])


def indexes_between(ahead, behind, many):
    """The indexes of a line of so many points on the way from one to another, without these two."""
    return [(ahead + step) % many for step in range(1, (behind - ahead) % many)]


def kept_points(web, kept):
    """All points that the web has still."""
    return [path[i] for (word, path), some in zip(web, kept) for i in some]


def lies_in_field(point, field):
    """Whether a point lies in a three-cornered field, its sides and corners counted."""
    a, b, c = field
    turns = [turn(a, b, point), turn(b, c, point), turn(c, a, point)]
    if min(turns) < 0 < max(turns):
        return False
    # Straight ahead of a field that is but a segment no side tells that a point lies beyond it.
    return all([min(a[axis], b[axis], c[axis]) <= point[axis] <= max(a[axis], b[axis], c[axis]) for axis in (0, 1)])
