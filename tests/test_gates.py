import unittest

from heightrings.cells import cells, corners, has_point, points
from heightrings.errors import NoGate, NoPoint
from heightrings.gates import gates, goes, is_high, ties
from tests.samples import BOUND, Case, all_tables, cuts_of, mixed_tables, small_tables

FAR = 10 ** 30
VERY_FAR = 10 ** 5000
HILL = [[0, 0, 0], [0, 1, 0], [0, 0, 0]]
WIDE = [[1, 2, 3], [4, 5, 6]]


def ends(gate):
    x, y, way = gate
    return (x, y), ((x + 1, y) if way == 0 else (x, y + 1))


def expected_gates(rows, cut):
    """By going through all pairs of points."""
    told = []
    for x, y in points(rows):
        for a, b, way in ((x + 1, y, 0), (x, y + 1, 1)):
            if has_point(rows, a, b) and (rows[y][x] > cut) != (rows[b][a] > cut):
                told.append((x, y, way))
    return sorted(told)


def expected_ties(rows, cut, x, y):
    """By going round the cell's corners: each has the gate to the corner ahead and that to the one behind."""
    round_cell = corners(x, y)
    between = [(x, y, 0), (x + 1, y, 1), (x, y + 1, 0), (x, y, 1)]
    highs = [rows[b][a] > cut for a, b in round_cell]
    passed = [gate for k, gate in enumerate(between) if highs[k] != highs[(k + 1) % 4]]
    if len(passed) < 4:
        return [tuple(sorted(passed))] if passed else []
    tied_at = sum(rows[b][a] for a, b in round_cell) < 4 * cut + 2
    return sorted(tuple(sorted((between[k - 1], between[k]))) for k in range(4) if highs[k] == tied_at)


class IsHighTest(Case):
    def test_at_one_below_and_far(self):
        for height in (-BOUND, -3, 0, 7, BOUND):
            rows = [[height, 0, 0], [0, 0, 0]]
            self.assertIs(is_high(rows, height, 0, 0), False)
            self.assertIs(is_high(rows, height - 1, 0, 0), True)
            self.assertIs(is_high(rows, height + 1, 0, 0), False)
            for far in (10 ** 10, FAR, VERY_FAR):
                self.assertIs(is_high(rows, far, 0, 0), False)
                self.assertIs(is_high(rows, -far, 0, 0), True)

    def test_each_point(self):
        for x in range(3):
            for y in range(2):
                self.assertIs(is_high(WIDE, 3, x, y), y == 1)
                self.assertIs(is_high(WIDE, WIDE[y][x], x, y), False)
                self.assertIs(is_high(WIDE, WIDE[y][x] - 1, x, y), True)

    def test_beyond_each_edge(self):
        for rows, wide, tall in ((WIDE, 3, 2), ([[1, 2], [3, 4], [5, 6]], 2, 3)):
            for away in (1, 2, 10, FAR, VERY_FAR):
                for x, y in ((-away, 0), (0, -away), (wide - 1 + away, 0), (0, tall - 1 + away), (-away, -away)):
                    with self.assertRaises(NoPoint):
                        is_high(rows, 0, x, y)

    def test_refuses_and_leaves_alone(self):
        self.assert_refuses_no_table(lambda rows: is_high(rows, 0, 0, 0))
        self.assert_refuses_no_table(lambda rows: is_high(rows, 0, -1, 99))
        self.assert_asks_cleanly(lambda rows: is_high(rows, 1, 1, 1), [[1, 2], [3, 4]])


class GatesTest(Case):
    def test_round_a_hill(self):
        self.assertEqual(gates(HILL, 0), [(0, 1, 0), (1, 0, 1), (1, 1, 0), (1, 1, 1)])

    def test_at_each_edge(self):
        self.assertEqual(gates([[0, 1], [0, 1], [0, 1]], 0), [(0, 0, 0), (0, 1, 0), (0, 2, 0)])
        self.assertEqual(gates([[1, 1, 1], [0, 0, 0]], 0), [(0, 0, 1), (1, 0, 1), (2, 0, 1)])
        self.assertEqual(gates([[0, 0, 0], [0, 0, 0], [0, 0, 1]], 0), [(1, 2, 0), (2, 1, 1)])
        self.assertEqual(gates([[1, 0, 0], [0, 0, 0], [0, 0, 0]], 0), [(0, 0, 0), (0, 0, 1)])

    def test_none_open(self):
        self.assertEqual(gates([[5, 5], [5, 5]], 4), [])
        self.assertEqual(gates([[5, 5], [5, 5]], 5), [])
        for cut in (6, 0, 10 ** 10, -(10 ** 10), FAR, -FAR):
            self.assertEqual(gates(WIDE, cut), [])

    def test_all_open(self):
        self.assertEqual(gates([[0, 1], [1, 0]], 0), [(0, 0, 0), (0, 0, 1), (0, 1, 0), (1, 0, 1)])

    def test_over_many_tables(self):
        for rows in small_tables():
            for cut in cuts_of(rows):
                self.assertEqual(gates(rows, cut), expected_gates(rows, cut))

    def test_refuses_and_leaves_alone(self):
        self.assert_refuses_no_table(lambda rows: gates(rows, 0))
        self.assertTrue(self.assert_asks_cleanly(lambda rows: gates(rows, 3), WIDE))


class TiesTest(Case):
    ABOVE, LEFT, BELOW, RIGHT = (0, 0, 0), (0, 0, 1), (0, 1, 0), (1, 0, 1)

    def test_no_open_gate(self):
        self.assertEqual(ties([[1, 1], [1, 1]], 0, 0, 0), [])
        self.assertEqual(ties([[1, 1], [1, 1]], 1, 0, 0), [])

    def test_two_open_gates(self):
        for rows, tie in (
            ([[1, 0], [0, 0]], (self.ABOVE, self.LEFT)),
            ([[0, 1], [0, 0]], (self.ABOVE, self.RIGHT)),
            ([[0, 0], [0, 1]], (self.BELOW, self.RIGHT)),
            ([[0, 0], [1, 0]], (self.LEFT, self.BELOW)),
            ([[1, 1], [0, 0]], (self.LEFT, self.RIGHT)),
            ([[0, 1], [0, 1]], (self.ABOVE, self.BELOW)),
        ):
            self.assertEqual(ties(rows, 0, 0, 0), [tie])
            other_way_up = [[1 - height for height in row] for row in rows]
            self.assertEqual(ties(other_way_up, 0, 0, 0), [tie])

    def test_four_open_gates_round_the_bound(self):
        beside_first = [(self.ABOVE, self.LEFT), (self.BELOW, self.RIGHT)]
        beside_second = [(self.ABOVE, self.RIGHT), (self.LEFT, self.BELOW)]
        for cut in (0, 5, -1, -7, BOUND - 10, -BOUND + 40):
            for more in (-20, -2, -1, 0, 1, 5, 8):
                # The heights come to 4 * cut + 2 + more, two of them are high.
                high = 1 if more <= 0 else 1 + more
                low = more if more <= 0 else 0
                falling = [[cut + high, cut + low], [cut, cut + 1]]
                self.assertEqual(sum(map(sum, falling)), 4 * cut + 2 + more)
                rising = [[cut + low, cut + high], [cut + 1, cut]]
                with self.subTest(cut=cut, more=more):
                    self.assertEqual(ties(falling, cut, 0, 0), beside_second if more >= 0 else beside_first)
                    self.assertEqual(ties(rising, cut, 0, 0), beside_first if more >= 0 else beside_second)

    def test_each_cell_by_its_own_place(self):
        rows = [[0, 0, 0], [0, 9, 0], [0, 0, 0], [0, 0, 0]]
        self.assertEqual(ties(rows, 0, 0, 0), [((0, 1, 0), (1, 0, 1))])
        self.assertEqual(ties(rows, 0, 1, 0), [((1, 0, 1), (1, 1, 0))])
        self.assertEqual(ties(rows, 0, 0, 1), [((0, 1, 0), (1, 1, 1))])
        self.assertEqual(ties(rows, 0, 1, 1), [((1, 1, 0), (1, 1, 1))])
        self.assertEqual(ties(rows, 0, 1, 2), [])

    def test_over_many_tables(self):
        for tables in (all_tables(2, 2, range(-2, 3)), mixed_tables(40, 4, range(-3, 4))):
            for rows in tables:
                for cut in cuts_of(rows):
                    for x, y in cells(rows):
                        self.assertEqual(ties(rows, cut, x, y), expected_ties(rows, cut, x, y))

    def test_what_is_no_cell(self):
        for rows, wide, tall in ((WIDE, 3, 2), ([[1, 2], [3, 4], [5, 6]], 2, 3)):
            for away in (1, 2, 10, FAR, VERY_FAR):
                for x, y in ((-away, 0), (0, -away), (wide - 2 + away, 0), (0, tall - 2 + away), (-away, -away)):
                    with self.assertRaises(NoPoint):
                        ties(rows, 3, x, y)

    def test_refuses_and_leaves_alone(self):
        self.assert_refuses_no_table(lambda rows: ties(rows, 0, 0, 0))
        self.assert_refuses_no_table(lambda rows: ties(rows, 0, -1, 99))
        self.assertEqual(len(self.assert_asks_cleanly(lambda rows: ties(rows, 0, 0, 0), [[1, 0], [0, 1]])), 2)


class GoesTest(Case):
    def test_all_four_ways(self):
        self.assertEqual(goes(HILL, 0, (0, 1, 0)), "down")
        self.assertEqual(goes(HILL, 0, (1, 1, 0)), "up")
        self.assertEqual(goes(HILL, 0, (1, 1, 1)), "right")
        self.assertEqual(goes(HILL, 0, (1, 0, 1)), "left")

    def test_over_many_tables(self):
        to_the_left = {"down": (1, 0), "up": (0, 0), "right": (0, 0), "left": (0, 1)}
        for rows in small_tables():
            for cut in cuts_of(rows):
                for gate in gates(rows, cut):
                    word = goes(rows, cut, gate)
                    self.assertIn(word, (("down", "up"), ("right", "left"))[gate[2]])
                    across, down = to_the_left[word]
                    self.assertGreater(rows[gate[1] + down][gate[0] + across], cut)

    def test_what_is_no_open_gate(self):
        for gate in [
            (0, 0, 0), (0, 0, 1), (1, 2, 0), (2, 1, 1),
            (2, 1, 0), (1, 2, 1), (-1, 1, 0), (1, -1, 1), (3, 1, 0), (1, 3, 1), (0, 3, 0), (3, 0, 1), (0, -1, 0),
            (0, 1, 2), (0, 1, -1), (1, 1, 2), (1, 1, -1), (0, 1, FAR), (FAR, 1, 0), (1, -FAR, 1),
            (VERY_FAR, VERY_FAR, VERY_FAR), (-2, 1, 0), (1, -2, 1), (-1, -1, 0), (-1, -1, 1),
        ]:
            with self.assertRaises(NoGate):
                goes(HILL, 0, gate)

    def test_a_side_beyond_the_edge_is_none_even_where_the_last_and_first_differ(self):
        rows = [[0, 0, 1], [0, 0, 1], [1, 1, 1]]
        for gate in [(2, 0, 0), (-1, 0, 0), (0, 2, 1), (0, -1, 1), (2, 1, 0), (1, -1, 1)]:
            with self.assertRaises(NoGate):
                goes(rows, 0, gate)

    def test_open_at_one_cut_alone(self):
        self.assertEqual(goes(HILL, 0, (0, 1, 0)), "down")
        for cut in (-1, 1):
            with self.assertRaises(NoGate):
                goes(HILL, cut, (0, 1, 0))

    def test_refuses_and_leaves_alone(self):
        self.assert_refuses_no_table(lambda rows: goes(rows, 0, (0, 0, 0)))
        self.assert_refuses_no_table(lambda rows: goes(rows, 0, (9, 9, 9)))
        self.assert_asks_cleanly(lambda rows: goes(rows, 1, (0, 0, 0)), [[1, 2], [3, 4]])


if __name__ == "__main__":
    unittest.main()
