import unittest

from heightrings.bands import tree, word_of
from heightrings.cells import neighbours, points
from heightrings.errors import TooSteep
from heightrings.peaks import peaks
from heightrings.regions import regions
from heightrings.tables import raised
from tests.samples import BOUND, Case, mixed_tables, ringed_tables, small_tables

HILL = [[0, 0, 0], [0, 1, 0], [0, 0, 0]]


def some_tables():
    """Tables whose heights are at most 9 apart."""
    yield from list(small_tables())[:-20:4]
    yield from list(ringed_tables())[::2]
    yield from mixed_tables(25, 12, range(-2, 8))


def region_at(rows, cut, point):
    return [within for _, within in regions(rows, cut) if point in within][0]


def expected_peaks(rows):
    """By the regions alone: a high region is a peak where all its points are of the height above its cut."""
    told = []
    for height in range(min(map(min, rows)), max(map(max, rows)) + 1):
        for word, within in regions(rows, height - 1):
            if word == "high" and max(rows[y][x] for x, y in within) == height:
                passes = [
                    cut for cut in range(min(map(min, rows)) - 5, height)
                    if any(rows[y][x] > height for x, y in region_at(rows, cut, within[0]))
                ]
                told.append((within, height, max(passes, default=None)))
    return sorted(told, key=lambda peak: peak[0])


class PeaksTest(Case):
    def test_one(self):
        self.assertEqual(peaks(HILL), [(((1, 1),), 1, None)])

    def test_heights_all_alike(self):
        rows = [[3, 3, 3], [3, 3, 3]]
        self.assertEqual(peaks(rows), [(tuple(points(rows)), 3, None)])

    def test_a_lower_one_and_its_pass(self):
        rows = [[4, 2, 9], [1, 1, 1]]
        # At the cut 1 the way over the 2 is open, at the cut 2 it is not.
        self.assertEqual(peaks(rows), [(((0, 0),), 4, 1), (((2, 0),), 9, None)])

    def test_a_pass_beneath_the_least_height(self):
        rows = [[1, 0, 2], [1, 0, 2]]
        self.assertEqual(peaks(rows), [(((0, 0), (0, 1)), 1, -1), (((2, 0), (2, 1)), 2, None)])

    def test_no_peak_hangs_together_with_a_higher_point(self):
        # At the cut 1 the 2 and the 5 hang together through the cell's middle, in the second table they don't.
        self.assertEqual(peaks([[2, 1], [0, 5]]), [(((1, 1),), 5, None)])
        self.assertEqual(peaks([[2, 1], [0, 2]]), [(((0, 0),), 2, None), (((1, 1),), 2, None)])
        self.assertEqual(peaks([[2, 1], [-1, 3]]), [(((0, 0),), 2, 0), (((1, 1),), 3, None)])

    def test_two_of_like_height(self):
        rows = [[5, 0, 5], [5, 0, 5]]
        self.assertEqual(peaks(rows), [(((0, 0), (0, 1)), 5, None), (((2, 0), (2, 1)), 5, None)])
        rows = [[5, 3, 5, 1, 7], [0, 0, 0, 0, 0]]
        # The way between the like ones is no pass: none of them is higher than the other.
        self.assertEqual(peaks(rows), [(((0, 0),), 5, 0), (((2, 0),), 5, 0), (((4, 0),), 7, None)])

    def test_several_one_behind_another(self):
        rows = [[3, 0, 5, 2, 4, 1, 6], [0] * 7, [0] * 7]
        self.assertEqual(peaks(rows), [
            (((0, 0),), 3, -1), (((2, 0),), 5, 0), (((4, 0),), 4, 1), (((6, 0),), 6, None),
        ])

    def test_sorted_by_points_and_not_by_heights(self):
        rows = [[9, 0, 3], [0, 0, 0], [5, 0, 1]]
        self.assertEqual([peak[1] for peak in peaks(rows)], [9, 5, 3, 1])
        self.assertEqual([peak[0] for peak in peaks(rows)], [((0, 0),), ((0, 2),), ((2, 0),), ((2, 2),)])

    def test_each_end_and_all_of_the_tree(self):
        for rows in some_tables():
            nodes = [node for node in tree(rows) if word_of(node) in ("end", "all")]
            self.assertEqual([peak[:2] for peak in peaks(rows)], sorted((node[3], node[0]) for node in nodes))

    def test_over_many_tables(self):
        for rows in some_tables():
            self.assertEqual(peaks(rows), expected_peaks(rows))

    def test_the_highest_ones_have_no_pass(self):
        for rows in some_tables():
            greatest = max(map(max, rows))
            for some, height, over in peaks(rows):
                self.assertEqual(over is None, height == greatest)
                for x, y in some:
                    self.assertEqual(rows[y][x], height)
                    self.assertTrue(all(rows[b][a] <= height for a, b in neighbours(rows, x, y)))

    def test_raised(self):
        for rows in list(some_tables())[::7]:
            for by in (-(10 ** 6), 10 ** 8):
                for told, higher in zip(peaks(rows), peaks(raised(rows, by)), strict=True):
                    over = None if told[2] is None else told[2] + by
                    self.assertEqual(higher, (told[0], told[1] + by, over))

    def test_how_steep_a_table_may_be(self):
        for least in (-BOUND, 0, BOUND - 9):
            rows = [[least, least], [least, least + 9]]
            self.assertEqual(peaks(rows), [(((1, 1),), least + 9, None)])
        for least, apart in ((-BOUND, 10), (0, 10), (0, 11), (3, 100), (-BOUND, 2 * BOUND)):
            with self.assertRaises(TooSteep):
                peaks([[least, least], [least, least + apart]])

    def test_refuses_and_leaves_alone(self):
        self.assert_refuses_no_table(peaks)
        self.assertEqual(len(self.assert_asks_cleanly(peaks, [[1, 0, 2], [1, 0, 2]])), 2)


if __name__ == "__main__":
    unittest.main()
