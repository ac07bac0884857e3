"""Fractions: tuples (top, bottom), bottom from 1 on, that no number above 1 divides both (point 2)."""


def common(one, other):
    """The greatest whole number that divides both; 0 where both are 0."""
    one, other = abs(one), abs(other)
    while other:
        one, other = other, one % other
    return one


def shortened(top, bottom):
    """The fraction of top by bottom, which is any whole number but 0."""
    by = common(top, bottom)
    if bottom < 0:
        by = -by
    return (top // by, bottom // by)


def total(some):
    """What a list of fractions comes to."""
    top, bottom = 0, 1
    for more, parts in some:
        top, bottom = shortened(top * parts + more * bottom, bottom * parts)
    return (top, bottom)
