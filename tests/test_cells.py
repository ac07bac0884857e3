import unittest

from heightrings.cells import cells, cells_at, corners, has_cell, has_point, neighbours, points, size

WIDE = [[1, 2, 3], [4, 5, 6]]


class CellsTest(unittest.TestCase):
    def test_size_is_wide_then_high(self):
        self.assertEqual(size(WIDE), (3, 2))

    def test_points_are_sorted(self):
        self.assertEqual(points(WIDE), [(0, 0), (0, 1), (1, 0), (1, 1), (2, 0), (2, 1)])

    def test_has_point_at_and_beyond_the_edges(self):
        for x in (-10 ** 30, -1, 0, 1, 2, 3, 10 ** 30):
            for y in (-10 ** 30, -1, 0, 1, 2, 10 ** 30):
                with self.subTest(x=x, y=y):
                    self.assertIs(has_point(WIDE, x, y), x in (0, 1, 2) and y in (0, 1))

    def test_neighbours_at_the_edges(self):
        self.assertEqual(neighbours(WIDE, 0, 0), [(0, 1), (1, 0)])
        self.assertEqual(neighbours(WIDE, 1, 0), [(0, 0), (1, 1), (2, 0)])
        self.assertEqual(neighbours(WIDE, 2, 0), [(1, 0), (2, 1)])
        self.assertEqual(neighbours(WIDE, 0, 1), [(0, 0), (1, 1)])
        self.assertEqual(neighbours(WIDE, 1, 1), [(0, 1), (1, 0), (2, 1)])
        self.assertEqual(neighbours(WIDE, 2, 1), [(1, 1), (2, 0)])

    def test_neighbours_in_the_midst(self):
        self.assertEqual(neighbours([[0] * 3] * 3, 1, 1), [(0, 1), (1, 0), (1, 2), (2, 1)])

    def test_neighbours_are_mutual(self):
        for x, y in points(WIDE):
            for a, b in neighbours(WIDE, x, y):
                self.assertIn((x, y), neighbours(WIDE, a, b))

    def test_cells(self):
        self.assertEqual(cells(WIDE), [(0, 0), (1, 0)])
        self.assertEqual(cells([[0, 0]] * 3), [(0, 0), (0, 1)])
        self.assertEqual(len(cells([[0] * 7] * 7)), 36)

    def test_has_cell_at_and_beyond_the_edges(self):
        for x in range(-2, 5):
            for y in range(-2, 4):
                with self.subTest(x=x, y=y):
                    self.assertIs(has_cell(WIDE, x, y), (x, y) in ((0, 0), (1, 0)))

    def test_corners(self):
        self.assertEqual(corners(0, 0), [(0, 0), (1, 0), (1, 1), (0, 1)])
        self.assertEqual(corners(5, 2), [(5, 2), (6, 2), (6, 3), (5, 3)])

    def test_corners_are_points_of_the_table(self):
        for x, y in cells(WIDE):
            for a, b in corners(x, y):
                self.assertTrue(has_point(WIDE, a, b))

    def test_cells_at_a_point_are_those_that_have_it_as_a_corner(self):
        for rows in (WIDE, [[0] * 4] * 4):
            for point in points(rows):
                self.assertEqual(cells_at(rows, *point), [cell for cell in cells(rows) if point in corners(*cell)])


if __name__ == "__main__":
    unittest.main()
