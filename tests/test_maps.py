import copy
import math
import random
import unittest
from fractions import Fraction

from heightrings.lines import lines
from heightrings.maps import pins_of, scale_of, web_of
from heightrings.webs import meeting
from tests.samples import BOUND, DEEP, Case, cuts_of, mixed_tables, small_tables

HILL = [[0, 0, 0], [0, 3, 0], [0, 0, 0]]
STEPS = [[0, 1, 3], [2, 2, 2]]
FLAT = [[5] * 4] * 3
FAR = [[-BOUND, BOUND], [-BOUND, -BOUND + 1]]


def differences(rows):
    """How far the heights of each two neighbours are apart."""
    beside = [(a, b) for row in rows for a, b in zip(row, row[1:])]
    beneath = [(a, b) for row, other in zip(rows, rows[1:]) for a, b in zip(row, other)]
    return [abs(a - b) for a, b in beside + beneath]


def expected_place(rows, cut, gate):
    """By going evenly from point to point."""
    x, y, way = gate
    other = (x + 1, y) if way == 0 else (x, y + 1)
    start, end = rows[y][x], rows[other[1]][other[0]]
    part = (Fraction(2 * cut + 1, 2) - start) / (end - start)
    return (x + part * (other[0] - x), y + part * (other[1] - y))


def expected_web(rows, cuts):
    scale = math.lcm(*[2 * far for far in differences(rows) if far])
    web = []
    for cut in cuts:
        for word, path in lines(rows, cut):
            places = [expected_place(rows, cut, gate) for gate in path]
            web.append((word, tuple((x * scale, y * scale) for x, y in places)))
    return web


class ScaleTest(Case):
    def test_all_heights_alike(self):
        for height in (-BOUND, -3, 0, 1, BOUND):
            self.assertEqual(scale_of([[height] * 2] * 2), 1)
            self.assertEqual(scale_of([[height] * 7] * 7), 1)

    def test_neighbours_one_apart(self):
        self.assertEqual(scale_of([[0, 1], [1, 0]]), 2)
        self.assertEqual(scale_of([[0, 1], [0, 0]]), 2)
        self.assertEqual(scale_of([[0, 1, 2], [1, 2, 3], [2, 3, 4]]), 2)
        self.assertEqual(scale_of(DEEP), 2)

    def test_several_differences(self):
        self.assertEqual(scale_of(HILL), 6)
        self.assertEqual(scale_of([[0, 2], [0, 3]]), 12)
        self.assertEqual(scale_of([[0, 4], [0, 6]]), 24)
        # 1, 2, 2, 1, 1: corners aslant are no neighbours.
        self.assertEqual(scale_of(STEPS), 4)
        self.assertEqual(scale_of([[0, 0], [0, 5]]), 10)
        self.assertEqual(scale_of([[7, 0], [0, 0]]), 14)

    def test_one_difference_anywhere(self):
        for at in range(12):
            flat = [0] * 12
            flat[at] = -5
            self.assertEqual(scale_of([flat[:4], flat[4:8], flat[8:]]), 10)

    def test_far_apart(self):
        self.assertEqual(scale_of([[-BOUND, BOUND], [-BOUND, BOUND]]), 4 * BOUND)
        self.assertEqual(scale_of([[BOUND, -BOUND], [BOUND, BOUND]]), 4 * BOUND)
        self.assertEqual(scale_of(FAR), 4 * BOUND * (2 * BOUND - 1))

    def test_no_lesser_number(self):
        for rows in list(small_tables())[::5] + [HILL, STEPS, FLAT]:
            needed = [2 * far for far in differences(rows) if far]
            scale = scale_of(rows)
            self.assertIsInstance(scale, int)
            self.assertTrue(all(scale % by == 0 for by in needed))
            for lesser in range(1, min(scale, 5000)):
                self.assertFalse(all(lesser % by == 0 for by in needed))

    def test_over_many_tables(self):
        source = random.Random(31)
        tables = list(mixed_tables(40, 32, range(-60, 60)))
        for _ in range(30):
            far = [source.randint(-BOUND, BOUND) for _ in range(20)] + [BOUND, -BOUND]
            tables += mixed_tables(1, source.random(), far)
        for rows in tables:
            self.assertEqual(scale_of(rows), math.lcm(*[2 * far for far in differences(rows) if far]))

    def test_no_table(self):
        self.assert_refuses_no_table(scale_of)


class WebTest(Case):
    def test_one_cut(self):
        self.assertEqual(web_of(HILL, [0]), [("ring", ((1, 6), (6, 11), (11, 6), (6, 1)))])
        self.assertEqual(web_of(HILL, [2]), [("ring", ((5, 6), (6, 7), (7, 6), (6, 5)))])
        self.assertEqual(web_of([[0, 1], [0, 1]], [0]), [("run", ((1, 0), (1, 2)))])
        self.assertEqual(web_of([[0, 3], [0, 3]], [1]), [("run", ((3, 0), (3, 6)))])

    def test_several_cuts_in_the_order_handed_in(self):
        low, middle, high = [web_of(HILL, [cut]) for cut in range(3)]
        self.assertEqual(web_of(HILL, [0, 1]), low + middle)
        self.assertEqual(web_of(HILL, [1, 0]), middle + low)
        self.assertEqual(web_of(HILL, [2, 0, 1]), high + low + middle)
        self.assertEqual(web_of(HILL, [0, 1, 2]), low + middle + high)
        self.assertEqual(web_of(HILL, [2, 1, 0]), high + middle + low)

    def test_lines_of_one_cut_stay_in_their_order(self):
        for rows in mixed_tables(30, 33, range(4)):
            words = [word for cut in (2, 0, 1) for word, _ in lines(rows, cut)]
            self.assertEqual([word for word, _ in web_of(rows, [2, 0, 1])], words)

    def test_cuts_without_lines(self):
        self.assertEqual(web_of(HILL, [3]), [])
        self.assertEqual(web_of(HILL, [-1]), [])
        self.assertEqual(web_of(FLAT, [4, 5, 6]), [])
        self.assertEqual(web_of(HILL, [10 ** 10, 2, -(10 ** 10)]), web_of(HILL, [2]))
        self.assertEqual(web_of(HILL, []), [])

    def test_far_apart(self):
        scale = 4 * BOUND
        rows = [[-BOUND, BOUND], [-BOUND, BOUND]]
        self.assertEqual(web_of(rows, [-BOUND]), [("run", ((1, 0), (1, scale)))])
        self.assertEqual(web_of(rows, [BOUND - 1]), [("run", ((scale - 1, 0), (scale - 1, scale)))])
        self.assertEqual(web_of(rows, [BOUND]), [])
        self.assertEqual(web_of(FAR, [0, -BOUND]), expected_web(FAR, [0, -BOUND]))

    def test_over_many_tables(self):
        source = random.Random(34)
        tables = list(small_tables())[::9] + list(mixed_tables(40, 35, range(-20, 20)))
        tables += mixed_tables(6, 36, [source.randint(-BOUND, BOUND) for _ in range(20)])
        for rows in tables:
            cuts = source.sample(cuts_of(rows), min(3, len(cuts_of(rows))))[:source.randint(1, 3)]
            web = web_of(rows, cuts)
            self.assertEqual(web, expected_web(rows, cuts), (rows, cuts))
            for word, path in web:
                self.assertIsInstance(path, tuple)
                for point in path:
                    self.assertIsInstance(point, tuple)
                    self.assertEqual([value.__class__ for value in point], [int, int])
            # What was told may be handed in again, whatever its size.
            self.assertIsNone(meeting(web))

    def test_no_table_ahead_of_all_else(self):
        self.assert_refuses_no_table(lambda rows: web_of(rows, [0]))
        self.assert_refuses_no_table(lambda rows: web_of(rows, []))
        self.assert_refuses_no_table(lambda rows: web_of(rows, [10 ** 11, 10 ** 11]))

    def test_nothing_handed_in_is_changed(self):
        cuts = [2, 0]
        self.assert_asks_cleanly(lambda rows: web_of(rows, cuts), copy.deepcopy(HILL))
        self.assertEqual(cuts, [2, 0])

    def test_told_the_same_whatever_is_asked_in_between(self):
        told = web_of(STEPS, [0, 1])
        web_of(HILL, [1])
        scale_of(FAR)
        pins_of(FAR)
        self.assertEqual(web_of(STEPS, [0, 1]), told)


class PinsTest(Case):
    def test_small_ones(self):
        self.assertEqual(pins_of([[5, 5], [5, 5]]), [(0, 0), (0, 1), (1, 0), (1, 1)])
        self.assertEqual(pins_of([[0, 3], [0, 0]]), [(0, 0), (0, 6), (6, 0), (6, 6)])
        self.assertEqual(pins_of(STEPS), [(0, 0), (0, 4), (4, 0), (4, 4), (8, 0), (8, 4)])

    def test_far_apart(self):
        scale = 4 * BOUND * (2 * BOUND - 1)
        self.assertEqual(pins_of(FAR), [(0, 0), (0, scale), (scale, 0), (scale, scale)])

    def test_over_many_tables(self):
        for rows in list(small_tables())[::9] + list(mixed_tables(40, 37, range(-50, 50))):
            pins = pins_of(rows)
            self.assertEqual(len(pins), len(rows) * len(rows[0]))
            self.assertEqual(pins, sorted(pins))
            scale = scale_of(rows)
            self.assertEqual(set(pins), {(x * scale, y * scale) for y in range(len(rows)) for x in range(len(rows[0]))})

    def test_no_table(self):
        self.assert_refuses_no_table(pins_of)

    def test_nothing_handed_in_is_changed(self):
        self.assert_asks_cleanly(pins_of, copy.deepcopy(HILL))


if __name__ == "__main__":
    unittest.main()
