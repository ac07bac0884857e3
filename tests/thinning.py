"""Another reckoning of what point 23 says of a thinned web, and webs to thin."""

import itertools
import math
import random
from fractions import Fraction

from tests.test_webs import expected_meeting, lies_on


def distance_squared(p, a, b):
    """From a point to the nearest place of a segment."""
    along = (b[0] - a[0], b[1] - a[1])
    length = along[0] ** 2 + along[1] ** 2
    part = Fraction(0)
    if length:
        part = Fraction((p[0] - a[0]) * along[0] + (p[1] - a[1]) * along[1], length)
        part = min(max(part, Fraction(0)), Fraction(1))
    return (a[0] + part * along[0] - p[0]) ** 2 + (a[1] + part * along[1] - p[1]) ** 2


def in_field(p, a, b, c):
    """Whether a point is a mean of the three corners."""
    across = (b[0] - a[0]) * (c[1] - a[1]) - (b[1] - a[1]) * (c[0] - a[0])
    if across == 0:
        return any(lies_on(p, *side) for side in itertools.combinations((a, b, c), 2))
    to_b = Fraction((p[0] - a[0]) * (c[1] - a[1]) - (p[1] - a[1]) * (c[0] - a[0]), across)
    to_c = Fraction((b[0] - a[0]) * (p[1] - a[1]) - (b[1] - a[1]) * (p[0] - a[0]), across)
    return to_b >= 0 and to_c >= 0 and to_b + to_c <= 1


def crossings(pin, around):
    """How often the way from a pin out to the right crosses a closed way, which the pin doesn't lie on."""
    many = 0
    for (a, b), (c, d) in zip(around, around[1:] + around[:1]):
        if (b > pin[1]) != (d > pin[1]):
            many += a + Fraction((pin[1] - b) * (c - a), d - b) > pin[0]
    return many


def stretches(word, points, kept):
    """For each segment of what is kept: its ends, and what was left out between them."""
    at = [points.index(point) for point in kept]
    pairs = list(zip(at, at[1:])) + ([(at[-1], at[0] + len(points))] if word == "ring" else [])
    return [(points[i], points[j % len(points)], [points[k % len(points)] for k in range(i + 1, j)]) for i, j in pairs]


def segments(web):
    found = []
    for word, points in web:
        found += list(zip(points, points[1:])) + ([(points[-1], points[0])] if word == "ring" else [])
    return found


def which_may_go(web, told, bound, pins):
    """The points of the told web that may go still."""
    every = [point for _, points in told for point in points]
    found = []
    for (word, points), (_, kept) in zip(web, told):
        if word == "ring" and len(kept) <= 3:
            continue
        some = stretches(word, points, kept)
        steps = list(zip(some, some[1:])) + ([(some[-1], some[0])] if word == "ring" else [])
        for (a, p, left), (_, b, more) in steps:
            free = not any(in_field(q, a, p, b) for q in every + pins if q not in (a, p, b) or q in pins)
            if free and all(distance_squared(q, a, b) <= bound ** 2 for q in left + [p] + more):
                found.append(p)
    return found


def what_is_wrong(web, bound, pins, told):
    """None where the told web is a thinned one of the web; else a text that says what isn't so."""
    if [word for word, _ in told] != [word for word, _ in web]:
        return "other words"
    for (word, points), (_, kept) in zip(web, told):
        places = [points.index(point) if point in points else -1 for point in kept]
        if -1 in places or places != sorted(set(places)):
            return "other points"
        if len(kept) < 3 if word == "ring" else (kept[0], kept[-1]) != (points[0], points[-1]):
            return "too few points"
        for a, b, left in stretches(word, points, kept):
            if any(distance_squared(p, a, b) > bound ** 2 for p in left):
                return "too far off"
            if any(lies_on(pin, a, b) for pin in pins):
                return "a pin on a segment"
            if any(crossings(pin, [a] + left + [b]) % 2 for pin in pins):
                return "a pin on the other side"
    if expected_meeting(told) is not None:
        return "a meeting"
    if which_may_go(web, told, bound, pins):
        return "a point may go"
    return None


def around_a_centre(source, many, centre, least, most):
    """A ring round a centre, with points at any distance from it: it never meets itself."""
    found = {}
    while len(found) < many:
        x, y = source.randint(-most, most), source.randint(-most, most)
        by = math.gcd(x, y)
        if least <= max(abs(x), abs(y)) and (x // by, y // by) not in found:
            found[x // by, y // by] = (centre[0] + x, centre[1] + y)
    some = sorted(found, key=lambda way: math.atan2(way[1], way[0]))
    return ("ring", tuple(found[way] for way in some))


def stacked_runs(source, many, length, step, high):
    """Runs from left to right, none of which crosses another, though they may come near."""
    columns = [sorted(source.sample(range(high), many)) for _ in range(length)]
    return [("run", tuple((x * step, column[k]) for x, column in enumerate(columns))) for k in range(many)]


def made_up_web(source):
    """A web of at most 60 points, mostly clean."""
    shape = source.randrange(4)
    if shape == 0:
        many = source.randint(1, 4)
        web = stacked_runs(source, many, source.randint(2, 60 // many), source.randint(1, 4), source.choice((6, 12, 40)))
    elif shape == 1:
        web = [around_a_centre(source, source.randint(3, 25), (0, 0), 1, source.choice((6, 10, 30)))]
        web.append(around_a_centre(source, source.randint(3, 25), (0, 0), 31, 60))
    elif shape == 2:
        web = [around_a_centre(source, source.randint(5, 30), (9, 5), 6, 14)]
        web += [("run", tuple((x + 8, y + 3) for x, y in points)) for _, points in stacked_runs(source, 2, 4, 1, 5)]
    else:
        web = [("run", tuple((x, source.randrange(7)) for x in range(source.randint(2, 20))))]
        web.append(("ring", tuple((x, source.randint(8, 11)) for x in range(9)) + ((9, 15), (-1, 15))))
    if source.randrange(3) == 0:
        web = [(word, points[::-1]) for word, points in web]
    by = source.choice((1, 1, 1, -1, 3, 10 ** 10))
    across, down = source.randint(-50, 50), source.randint(-(10 ** 9), 10 ** 9)
    return [(word, tuple((by * x + across, by * y + down) for x, y in points)) for word, points in web]


def pins_near(source, web, many):
    """Pins among the points of a web, none on a segment of it."""
    every = [point for _, points in web for point in points]
    reach = max(1, (max(x for x, _ in every) - min(x for x, _ in every)) // 8)
    found = []
    for _ in range(many):
        x, y = source.choice(every)
        pin = (x + source.randint(-reach, reach), y + source.randint(-reach, reach))
        if not any(lies_on(pin, a, b) for a, b in segments(web)):
            found.append(pin)
    return found


def made_up_tasks(many, seed):
    """Clean webs with bounds and pins."""
    source = random.Random(seed)
    found = 0
    while found < many:
        web = made_up_web(source)
        if expected_meeting(web) is None:
            found += 1
            wide = max(abs(a[0] - b[0]) + abs(a[1] - b[1]) for a, b in segments(web))
            bound = source.choice((0, 1, 2, wide // 4, wide // 2, wide, 5 * wide, 10 ** 12))
            yield web, bound, pins_near(source, web, source.choice((0, 0, 1, 3, 12)))
