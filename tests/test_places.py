import math
import unittest
from fractions import Fraction

from heightrings.errors import NoGate
from heightrings.gates import gates
from heightrings.places import place
from tests.samples import BOUND, Case, cuts_of, mixed_tables, small_tables

FAR = 10 ** 30
VERY_FAR = 10 ** 5000
HILL = [[0, 0, 0], [0, 1, 0], [0, 0, 0]]


def expected_place(rows, cut, gate):
    """By another reckoning: from the lower end as far as the height asks."""
    x, y, way = gate
    ends = sorted([(rows[y][x], x, y), (rows[y + way][x + 1 - way], x + 1 - way, y + way)])
    (low, a, b), (high, c, d) = ends
    part = (Fraction(2 * cut + 1, 2) - low) / (high - low)
    return a + part * (c - a), b + part * (d - b)


class PlaceTest(Case):
    def test_heights_one_apart(self):
        self.assertEqual(place(HILL, 0, (0, 1, 0)), (1, 2, 2))
        self.assertEqual(place(HILL, 0, (1, 1, 0)), (3, 2, 2))
        self.assertEqual(place(HILL, 0, (1, 0, 1)), (2, 1, 2))
        self.assertEqual(place(HILL, 0, (1, 1, 1)), (2, 3, 2))

    def test_several_apart_and_either_end_the_higher(self):
        self.assertEqual(place([[0, 3], [0, 0]], 0, (0, 0, 0)), (1, 0, 6))
        self.assertEqual(place([[0, 3], [0, 0]], 1, (0, 0, 0)), (1, 0, 2))
        self.assertEqual(place([[0, 3], [0, 0]], 2, (0, 0, 0)), (5, 0, 6))
        self.assertEqual(place([[3, 0], [0, 0]], 0, (0, 0, 0)), (5, 0, 6))
        self.assertEqual(place([[3, 0], [0, 0]], 1, (0, 0, 0)), (1, 0, 2))
        self.assertEqual(place([[0, 0], [3, 0]], 0, (0, 0, 1)), (0, 1, 6))
        self.assertEqual(place([[3, 0], [0, 0]], 0, (0, 0, 1)), (0, 5, 6))
        self.assertEqual(place([[3, 0], [0, 0]], 2, (0, 0, 1)), (0, 1, 6))

    def test_away_from_the_corner(self):
        rows = [[0, 0, 0], [0, 0, 5], [0, 0, 0]]
        self.assertEqual(place(rows, 0, (1, 1, 0)), (11, 10, 10))
        self.assertEqual(place(rows, 4, (1, 1, 0)), (19, 10, 10))
        self.assertEqual(place(rows, 2, (1, 1, 0)), (3, 2, 2))
        self.assertEqual(place(rows, 0, (2, 0, 1)), (20, 1, 10))
        self.assertEqual(place(rows, 0, (2, 1, 1)), (20, 19, 10))

    def test_heights_below_nought(self):
        self.assertEqual(place([[-3, 2], [0, 0]], -3, (0, 0, 0)), (1, 0, 10))
        self.assertEqual(place([[-3, 2], [0, 0]], -1, (0, 0, 0)), (1, 0, 2))
        self.assertEqual(place([[-3, 2], [0, 0]], 1, (0, 0, 0)), (9, 0, 10))

    def test_heights_at_both_bounds(self):
        rows = [[-BOUND, BOUND], [BOUND, -BOUND]]
        self.assertEqual(place(rows, -BOUND, (0, 0, 0)), (1, 0, 4 * BOUND))
        self.assertEqual(place(rows, BOUND - 1, (0, 0, 0)), (4 * BOUND - 1, 0, 4 * BOUND))
        self.assertEqual(place(rows, BOUND - 1, (1, 0, 1)), (4 * BOUND, 1, 4 * BOUND))
        self.assertEqual(place(rows, 0, (0, 1, 0)), (2 * BOUND - 1, 4 * BOUND, 4 * BOUND))

    def test_over_many_tables(self):
        for rows in list(small_tables()) + list(mixed_tables(15, 8, (-BOUND, -77, 0, 5, 13, 90, BOUND - 1, BOUND))):
            for cut in cuts_of(rows):
                for gate in gates(rows, cut):
                    told = place(rows, cut, gate)
                    self.assertIsInstance(told, tuple)
                    across, down, by = told
                    self.assertGreaterEqual(by, 1)
                    self.assertEqual(math.gcd(across, down, by), 1)
                    self.assertEqual((Fraction(across, by), Fraction(down, by)), expected_place(rows, cut, gate))
                    # It is whole in just one of its numbers: the line never goes through a point.
                    self.assertEqual((across % by == 0, down % by == 0), (gate[2] == 1, gate[2] == 0))

    def test_what_is_no_open_gate(self):
        for gate in [
            (0, 0, 0), (0, 0, 1), (1, 2, 0), (2, 1, 1),
            (2, 1, 0), (1, 2, 1), (-1, 1, 0), (1, -1, 1), (3, 1, 0), (1, 3, 1), (-2, 1, 0), (1, -2, 1),
            (0, 1, 2), (0, 1, -1), (1, 1, 2), (1, 1, -1), (0, 1, FAR), (FAR, 1, 0), (1, -FAR, 1),
            (VERY_FAR, VERY_FAR, VERY_FAR), (-1, -1, 0), (-1, -1, 1),
        ]:
            with self.assertRaises(NoGate):
                place(HILL, 0, gate)

    def test_open_at_another_cut_alone(self):
        for cut in (-1, 1, FAR, -FAR):
            with self.assertRaises(NoGate):
                place(HILL, cut, (0, 1, 0))

    def test_refuses_and_leaves_alone(self):
        self.assert_refuses_no_table(lambda rows: place(rows, 0, (0, 0, 0)))
        self.assert_refuses_no_table(lambda rows: place(rows, 0, (9, 9, 9)))
        self.assertEqual(self.assert_asks_cleanly(lambda rows: place(rows, 0, (0, 1, 0)), HILL), (1, 2, 2))


if __name__ == "__main__":
    unittest.main()
