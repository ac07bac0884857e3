"""Tables that several tests share."""

import copy
import itertools
import random
import unittest

from heightrings.errors import NoTable
from heightrings.tables import turned

BOUND = 10 ** 9

NO_TABLES = [
    ([], -1),
    ([[1, 2]], -1),
    ([[]], -1),
    ([[1, 2]] * 8, -1),
    ([[1]] * 9, -1),
    ([[1], [2]], 0),
    ([[], []], 0),
    ([list(range(8))] * 2, 0),
    ([[1, 2], [1, 2, 3]], 1),
    ([[1, 2], [3, 4], [5, BOUND + 1]], 2),
]

# Rings in rings at the cut 0.
DEEP = [
    [0, 0, 0, 0, 0, 0, 0],
    [0, 1, 1, 1, 1, 1, 0],
    [0, 1, 0, 0, 0, 1, 0],
    [0, 1, 0, 1, 0, 1, 0],
    [0, 1, 0, 0, 0, 1, 0],
    [0, 1, 1, 1, 1, 1, 0],
    [0, 0, 0, 0, 0, 0, 0],
]
TWO_IN_ONE = [
    [0, 0, 0, 0, 0, 0, 0],
    [0, 1, 1, 1, 1, 1, 0],
    [0, 1, 0, 1, 0, 1, 0],
    [0, 1, 1, 1, 1, 1, 0],
    [0, 0, 0, 0, 0, 0, 0],
]


def all_tables(wide, tall, heights):
    """Every table of that size with these heights."""
    for flat in itertools.product(heights, repeat=wide * tall):
        yield [list(flat[y * wide:(y + 1) * wide]) for y in range(tall)]


def mixed_tables(many, seed, heights):
    """Tables of all sizes, always the same ones for the same seed."""
    source = random.Random(seed)
    for _ in range(many):
        wide, tall = source.randint(2, 7), source.randint(2, 7)
        yield [[source.choice(heights) for _ in range(wide)] for _ in range(tall)]


def small_tables():
    """Many small tables: with cells of four open gates, with rings in rings, with runs at each edge."""
    yield from all_tables(2, 2, range(4))
    yield from all_tables(3, 2, range(3))
    yield from all_tables(2, 3, range(3))
    yield from all_tables(3, 3, range(2))
    yield from mixed_tables(60, 1, range(2))
    yield from mixed_tables(60, 2, range(5))
    yield from mixed_tables(20, 3, range(-30, 30, 7))


def ringed_tables():
    """Tables that have many rings, some of them in others."""
    yield from (DEEP, TWO_IN_ONE, turned(TWO_IN_ONE), [[1 - height for height in row] for row in DEEP])
    # What would be runs are rings where all the edge is low.
    for rows in mixed_tables(80, 6, range(3)):
        inner = [[0] + row[1:-1] + [0] for row in rows[1:-1]]
        yield [[0] * len(rows[0])] + inner + [[0] * len(rows[0])]


def cuts_of(rows):
    """Every cut that parts heights of the table, and one beyond on either side."""
    heights = sorted({height for row in rows for height in row})
    return sorted({heights[0] - 1} | {cut for height in heights for cut in (height, height - 1)})


class Case(unittest.TestCase):
    """Checks that several tests share."""

    def assert_refuses_no_table(self, ask):
        """The asking refuses each of what is no table, and with the right index."""
        for rows, at in NO_TABLES:
            with self.subTest(rows=rows):
                before = copy.deepcopy(rows)
                with self.assertRaises(NoTable) as caught:
                    ask(rows)
                self.assertEqual(caught.exception.at, at)
                self.assertEqual(rows, before)

    def assert_asks_cleanly(self, ask, rows):
        """Nothing handed in changes, and what the asker does with a told list changes nothing told later."""
        before = copy.deepcopy(rows)
        told = ask(rows)
        kept = copy.deepcopy(told)
        self.assertEqual(rows, before)
        spoil(told)
        self.assertEqual(rows, before)
        self.assertEqual(ask(rows), kept)
        self.assertEqual(ask(copy.deepcopy(rows)), kept)
        return kept


def spoil(told):
    """Changes a told list in each list within it."""
    if isinstance(told, (list, tuple)):
        for thing in told:
            spoil(thing)
    if isinstance(told, list):
        told.reverse()
        told.append("spoilt")
