import unittest

from heightrings.cells import cells, corners, points
from heightrings.errors import NoPoint
from heightrings.lines import lines
from heightrings.regions import region_of, regions, sides
from tests.samples import Case, cuts_of, small_tables

HILL = [[0, 0, 0], [0, 1, 0], [0, 0, 0]]


def expected_regions(rows, cut):
    """By giving both of each joined pair the lesser label, over and over, till nothing changes."""
    high = {(x, y): rows[y][x] > cut for x, y in points(rows)}
    pairs = []
    for x, y in points(rows):
        pairs += [((x, y), other) for other in ((x + 1, y), (x, y + 1)) if high.get(other) == high[(x, y)]]
    for x, y in cells(rows):
        a, b, c, d = corners(x, y)
        if high[a] == high[c] != high[b] == high[d]:
            middle = sum(rows[q][p] for p, q in corners(x, y)) >= 4 * cut + 2
            pairs.append((a, c) if high[a] == middle else (b, d))
    label = {point: point for point in high}
    changed = True
    while changed:
        changed = False
        for one, other in pairs:
            least = min(label[one], label[other])
            if label[one] != least or label[other] != least:
                label[one] = label[other] = least
                changed = True
    told = []
    for first in sorted(set(label.values())):
        word = "high" if high[first] else "low"
        told.append((word, tuple(sorted(point for point in label if label[point] == first))))
    return sorted(told, key=lambda region: region[1])


class RegionsTest(Case):
    def test_a_hill(self):
        round_it = tuple(point for point in points(HILL) if point != (1, 1))
        self.assertEqual(regions(HILL, 0), [("low", round_it), ("high", ((1, 1),))])

    def test_all_points_alike(self):
        self.assertEqual(regions(HILL, 1), [("low", tuple(points(HILL)))])
        self.assertEqual(regions(HILL, -1), [("high", tuple(points(HILL)))])
        self.assertEqual(regions(HILL, 10 ** 30), [("low", tuple(points(HILL)))])

    def test_sorted_by_points_and_not_by_words(self):
        self.assertEqual(regions([[0, 1], [0, 1]], 0), [("low", ((0, 0), (0, 1))), ("high", ((1, 0), (1, 1)))])
        self.assertEqual(regions([[1, 0], [1, 0]], 0), [("high", ((0, 0), (0, 1))), ("low", ((1, 0), (1, 1)))])

    def test_aslant_through_a_high_middle(self):
        self.assertEqual(
            regions([[1, 0], [0, 1]], 0),
            [("high", ((0, 0), (1, 1))), ("low", ((0, 1),)), ("low", ((1, 0),))],
        )
        self.assertEqual(
            regions([[0, 1], [1, 0]], 0),
            [("low", ((0, 0),)), ("high", ((0, 1), (1, 0))), ("low", ((1, 1),))],
        )

    def test_aslant_through_a_low_middle(self):
        self.assertEqual(
            regions([[1, 0], [-1, 1]], 0),
            [("high", ((0, 0),)), ("low", ((0, 1), (1, 0))), ("high", ((1, 1),))],
        )
        self.assertEqual(
            regions([[0, 1], [1, -1]], 0),
            [("low", ((0, 0), (1, 1))), ("high", ((0, 1),)), ("high", ((1, 0),))],
        )

    def test_not_aslant_where_fewer_gates_are_open(self):
        rows = [[9, 0, 0], [0, 0, 0], [0, 0, 9]]
        self.assertEqual([word for word, _ in regions(rows, 0)], ["high", "low", "high"])
        rows = [[0, 9, 9], [9, 9, 9], [9, 9, 0]]
        self.assertEqual([word for word, _ in regions(rows, 0)], ["low", "high", "low"])

    def test_what_hangs_together_over_many_steps(self):
        rows = [
            [1, 1, 1, 1, 1],
            [0, 0, 0, 0, 1],
            [1, 1, 1, 0, 1],
            [1, 0, 0, 0, 1],
            [1, 1, 1, 1, 1],
        ]
        self.assertEqual([(word, len(within)) for word, within in regions(rows, 0)], [("high", 17), ("low", 8)])

    def test_over_many_tables(self):
        for rows in small_tables():
            for cut in cuts_of(rows):
                self.assertEqual(regions(rows, cut), expected_regions(rows, cut))

    def test_refuses_and_leaves_alone(self):
        self.assert_refuses_no_table(lambda rows: regions(rows, 0))
        self.assertTrue(self.assert_asks_cleanly(lambda rows: regions(rows, 0), HILL))


class RegionOfTest(Case):
    def test_for_each_point(self):
        for rows in list(small_tables())[::7]:
            for cut in cuts_of(rows)[::2]:
                for at, (_, within) in enumerate(regions(rows, cut)):
                    for x, y in within:
                        self.assertEqual(region_of(rows, cut, x, y), at)

    def test_beyond_each_edge(self):
        for rows, wide, tall in (([[1, 2, 3], [4, 5, 6]], 3, 2), ([[1, 2], [3, 4], [5, 6]], 2, 3)):
            for away in (1, 2, 10, 10 ** 30, 10 ** 5000):
                for x, y in ((-away, 0), (0, -away), (wide - 1 + away, 0), (0, tall - 1 + away), (-away, -away)):
                    with self.assertRaises(NoPoint):
                        region_of(rows, 3, x, y)

    def test_refuses_and_leaves_alone(self):
        self.assert_refuses_no_table(lambda rows: region_of(rows, 0, 0, 0))
        self.assert_refuses_no_table(lambda rows: region_of(rows, 0, -1, 99))
        self.assertEqual(self.assert_asks_cleanly(lambda rows: region_of(rows, 0, 1, 1), HILL), 1)


class SidesTest(Case):
    def test_a_hill_and_a_dip(self):
        self.assertEqual(sides(HILL, 0), [(1, 0)])
        self.assertEqual(sides([[1, 1, 1], [1, 0, 1], [1, 1, 1]], 0), [(0, 1)])

    def test_in_the_order_of_the_lines(self):
        self.assertEqual(sides([[1, 0], [0, 1]], 0), [(0, 1), (0, 2)])
        self.assertEqual(sides([[1, 0], [-1, 1]], 0), [(0, 1), (2, 1)])

    def test_none(self):
        self.assertEqual(sides(HILL, 1), [])

    def test_at_each_gate_of_each_line(self):
        for rows in small_tables():
            for cut in cuts_of(rows):
                parts = regions(rows, cut)
                told = sides(rows, cut)
                self.assertEqual(len(told), len(lines(rows, cut)))
                for (left, right), (_, path) in zip(told, lines(rows, cut)):
                    self.assertEqual((parts[left][0], parts[right][0]), ("high", "low"))
                    for x, y, way in path:
                        both = sorted([(x, y), (x + 1 - way, y + way)], key=lambda point: rows[point[1]][point[0]])
                        self.assertIn(both[1], parts[left][1])
                        self.assertIn(both[0], parts[right][1])

    def test_refuses_and_leaves_alone(self):
        self.assert_refuses_no_table(lambda rows: sides(rows, 0))
        self.assertTrue(self.assert_asks_cleanly(lambda rows: sides(rows, 0), HILL))


if __name__ == "__main__":
    unittest.main()
