import copy
import math
import unittest
from fractions import Fraction

from heightrings.areas import region_areas, ring_area
from heightrings.cells import cells, corners
from heightrings.errors import NoRing
from heightrings.lines import lines
from heightrings.regions import regions
from heightrings.tables import mirrored, raised, turned
from heightrings.within import holds
from tests.samples import BOUND, Case, cuts_of, mixed_tables, ringed_tables, small_tables

HILL = [[0, 0, 0], [0, 1, 0], [0, 0, 0]]
STEEP = (-BOUND, -77, 0, 5, 13, 90, BOUND - 1, BOUND)


def some_tables():
    yield from list(small_tables())[::2]
    yield from list(ringed_tables())[::2]
    yield from mixed_tables(12, 9, STEEP)


def length(rows, cut, start, end):
    """How far it is from a point to the place on the way to a neighbour on the other side of the cut."""
    here, there = rows[start[1]][start[0]], rows[end[1]][end[0]]
    return (Fraction(2 * cut + 1, 2) - here) / (there - here)


def expected_areas(rows, cut):
    """By what corners each cell has on which side: triangles, four-sided fields, and what they leave."""
    areas = [Fraction(0) for _ in regions(rows, cut)]
    region_at = {point: at for at, (_, within) in enumerate(regions(rows, cut)) for point in within}
    for x, y in cells(rows):
        around = corners(x, y)
        high = [rows[b][a] > cut for a, b in around]

        def add(k, area):
            areas[region_at[around[k % 4]]] += area

        def triangle(k):
            """Gives a corner the triangle that is cut off at it."""
            area = length(rows, cut, around[k], around[k - 1]) * length(rows, cut, around[k], around[(k + 1) % 4]) / 2
            add(k, area)
            return area

        if sum(high) in (0, 4):
            add(0, Fraction(1))
        elif sum(high) in (1, 3):
            k = high.index(sum(high) == 1)
            add(k + 1, 1 - triangle(k))
        elif high[0] != high[2]:
            # Two high corners side by side: both sides that are cut through lie along one another.
            k = [at for at in range(4) if high[at] and high[(at + 1) % 4]][0]
            area = (length(rows, cut, around[k], around[k - 1])
                    + length(rows, cut, around[(k + 1) % 4], around[(k + 2) % 4])) / 2
            add(k, area)
            add(k + 2, 1 - area)
        else:
            middle = sum(rows[b][a] for a, b in around) >= 4 * cut + 2
            k = high.index(not middle)
            add(k + 1, 1 - triangle(k) - triangle((k + 2) % 4))
    return [area.as_integer_ratio() for area in areas]


def by_points(rows, cut):
    """The area of each region, under its points."""
    return {within: area for (_, within), area in zip(regions(rows, cut), region_areas(rows, cut))}


class RegionAreasTest(Case):
    def test_a_hill(self):
        self.assertEqual(region_areas(HILL, 0), [(7, 2), (1, 2)])

    def test_one_region_alone(self):
        self.assertEqual(region_areas(HILL, 1), [(4, 1)])
        self.assertEqual(region_areas(HILL, -1), [(4, 1)])
        self.assertEqual(region_areas([[5] * 7] * 7, 5), [(36, 1)])
        self.assertEqual(region_areas([[5, 5, 5], [5, 5, 5]], 10 ** 30), [(2, 1)])

    def test_a_cell_with_two_open_gates(self):
        self.assertEqual(region_areas([[0, 1], [0, 1]], 0), [(1, 2), (1, 2)])
        self.assertEqual(region_areas([[0, 3], [0, 1]], 0), [(1, 3), (2, 3)])
        self.assertEqual(region_areas([[0, 0], [3, 1]], 0), [(1, 3), (2, 3)])
        # A corner alone is cut off at a sixth and a fourth of its sides.
        self.assertEqual(region_areas([[3, 0], [1, 0]], 2), [(1, 48), (47, 48)])
        self.assertEqual(region_areas([[0, 3], [2, 2]], 0), [(1, 48), (47, 48)])
        self.assertEqual(region_areas([[0, 0], [0, 3]], 0), [(47, 72), (25, 72)])

    def test_a_cell_with_four_open_gates_and_a_high_middle(self):
        self.assertEqual(region_areas([[1, 0], [0, 1]], 0), [(3, 4), (1, 8), (1, 8)])
        self.assertEqual(region_areas([[0, 1], [1, 0]], 0), [(1, 8), (3, 4), (1, 8)])

    def test_a_cell_with_four_open_gates_and_a_low_middle(self):
        # The high corners are cut off at a half and, beside the deep one, at a fourth of their sides.
        self.assertEqual(region_areas([[1, 0], [-1, 1]], 0), [(1, 16), (7, 8), (1, 16)])
        self.assertEqual(region_areas([[0, 1], [1, -1]], 0), [(7, 8), (1, 16), (1, 16)])

    def test_corners_cut_off_that_are_of_one_region_elsewhere(self):
        rows = [[1, 1, 1, 1], [1, 0, 1, 1], [1, 1, -1, 1], [1, 1, 1, 1]]
        self.assertEqual([word for word, _ in regions(rows, 0)], ["high", "low"])
        self.assertEqual(region_areas(rows, 0), expected_areas(rows, 0))

    def test_over_many_tables(self):
        for rows in some_tables():
            for cut in cuts_of(rows):
                told = region_areas(rows, cut)
                self.assertEqual(told, expected_areas(rows, cut))
                for area in told:
                    self.assertIsInstance(area, tuple)
                    self.assertEqual(math.gcd(*area), 1)
                    self.assertGreaterEqual(min(area), 1)

    def test_all_come_to_the_table(self):
        for rows in some_tables():
            for cut in cuts_of(rows):
                whole = sum(Fraction(*area) for area in region_areas(rows, cut))
                self.assertEqual(whole, (len(rows) - 1) * (len(rows[0]) - 1))

    def test_turned_mirrored_and_raised(self):
        for rows in list(some_tables())[::3]:
            wide, tall = len(rows[0]), len(rows)
            for cut in cuts_of(rows)[1::2]:
                areas = by_points(rows, cut)
                quarter = {tuple(sorted((tall - 1 - y, x) for x, y in some)): areas[some] for some in areas}
                mirror = {tuple(sorted((wide - 1 - x, y) for x, y in some)): areas[some] for some in areas}
                self.assertEqual(by_points(turned(rows), cut), quarter)
                self.assertEqual(by_points(mirrored(rows), cut), mirror)
                if max(map(max, rows)) < 1000 and min(map(min, rows)) > -1000:
                    for by in (-(10 ** 8), -1, 2, 10 ** 8):
                        self.assertEqual(region_areas(raised(rows, by), cut + by), region_areas(rows, cut))

    def test_refuses_and_leaves_alone(self):
        self.assert_refuses_no_table(lambda rows: region_areas(rows, 0))
        self.assertEqual(self.assert_asks_cleanly(lambda rows: region_areas(rows, 0), HILL), [(7, 2), (1, 2)])

    def test_told_as_before_whatever_is_asked_in_between(self):
        before = region_areas(HILL, 0)
        kept = copy.deepcopy(before)
        region_areas([[1, 0], [0, 1]], 0)
        region_areas(HILL, 1)
        self.assertEqual(before, kept)
        self.assertEqual(region_areas(HILL, 0), kept)


class RingAreaTest(Case):
    def test_round_a_hill_and_a_dip(self):
        self.assertEqual(ring_area(HILL, 0, lines(HILL, 0)[0]), (1, 2))
        dip = [[1, 1, 1], [1, 0, 1], [1, 1, 1]]
        self.assertEqual(ring_area(dip, 0, lines(dip, 0)[0]), (1, 2))

    def test_by_how_high_the_hill_is(self):
        rows = [[0, 0, 0], [0, 3, 0], [0, 0, 0]]
        for cut, area in ((0, (25, 18)), (1, (1, 2)), (2, (1, 18))):
            self.assertEqual(ring_area(rows, cut, lines(rows, cut)[0]), area)

    def test_a_whole_number(self):
        rows = [[0] * 5, [0, 1, 1, 1, 0], [0, 1, 0, 1, 0], [0, 1, 1, 1, 0], [0] * 5]
        outer, inner = lines(rows, 0)
        # Three by three but for four corners of an eighth each.
        self.assertEqual(ring_area(rows, 0, outer), (17, 2))
        self.assertEqual(ring_area(rows, 0, inner), (1, 2))
        rows = [[0, 0, 0, 0], [0, 1, 1, 0], [0, 0, 0, 0]]
        self.assertEqual(ring_area(rows, 0, lines(rows, 0)[0]), (3, 2))
        rows = [[0, 0, 0, 0], [0, 1, 0, 0], [0, 0, 1, 0], [0, 0, 0, 0]]
        self.assertEqual(len(lines(rows, 0)), 1)
        self.assertEqual(ring_area(rows, 0, lines(rows, 0)[0]), (3, 2))

    def test_that_of_all_regions_within_it(self):
        rings = 0
        for rows in some_tables():
            for cut in cuts_of(rows):
                for line in lines(rows, cut):
                    if line[0] == "ring":
                        rings += 1
                        areas = by_points(rows, cut)
                        within = sum(Fraction(*areas[some]) for some in areas if holds(line, *some[0]))
                        self.assertEqual(ring_area(rows, cut, line), within.as_integer_ratio())
        self.assertGreater(rings, 300)

    def test_a_run_is_refused(self):
        rows = [[0, 1], [0, 1]]
        with self.assertRaises(NoRing):
            ring_area(rows, 0, lines(rows, 0)[0])
        for line in lines([[1, 0], [0, 1]], 0):
            with self.assertRaises(NoRing):
                ring_area([[1, 0], [0, 1]], 0, line)

    def test_refuses_and_leaves_alone(self):
        ring = lines(HILL, 0)[0]
        self.assert_refuses_no_table(lambda rows: ring_area(rows, 0, ring))
        self.assert_refuses_no_table(lambda rows: ring_area(rows, 0, ("run", ((0, 0, 0), (0, 1, 0)))))
        self.assertEqual(self.assert_asks_cleanly(lambda rows: ring_area(rows, 0, ring), HILL), (1, 2))
        self.assertEqual(ring, lines(HILL, 0)[0])


if __name__ == "__main__":
    unittest.main()
