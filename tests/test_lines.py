import unittest

from heightrings.cells import cells
from heightrings.errors import NoGate
from heightrings.gates import gates, goes, ties
from heightrings.lines import line_at, lines
from tests.samples import Case, cuts_of, small_tables

HILL = [[0, 0, 0], [0, 1, 0], [0, 0, 0]]
HILL_RING = ("ring", ((0, 1, 0), (1, 1, 1), (1, 1, 0), (1, 0, 1)))
DIP_RING = ("ring", ((0, 1, 0), (1, 0, 1), (1, 1, 0), (1, 1, 1)))
INTO = {"down": (0, 0), "up": (0, -1), "right": (0, 0), "left": (-1, 0)}
OUT_OF = {"down": (0, -1), "up": (0, 0), "right": (-1, 0), "left": (0, 0)}


def cell_by(steps, rows, cut, gate):
    across, down = steps[goes(rows, cut, gate)]
    return (gate[0] + across, gate[1] + down)


class LinesTest(Case):
    def test_ring_round_a_hill_and_a_dip(self):
        self.assertEqual(lines(HILL, 0), [HILL_RING])
        self.assertEqual(lines([[1, 1, 1], [1, 0, 1], [1, 1, 1]], 0), [DIP_RING])

    def test_runs_from_the_gate_that_they_come_in_by(self):
        self.assertEqual(lines([[0, 1], [0, 1]], 0), [("run", ((0, 0, 0), (0, 1, 0)))])
        self.assertEqual(lines([[1, 0], [1, 0]], 0), [("run", ((0, 1, 0), (0, 0, 0)))])
        self.assertEqual(lines([[1, 1], [0, 0]], 0), [("run", ((0, 0, 1), (1, 0, 1)))])
        self.assertEqual(lines([[0, 0], [1, 1]], 0), [("run", ((1, 0, 1), (0, 0, 1)))])

    def test_a_run_round_a_corner(self):
        self.assertEqual(lines([[1, 0], [0, 0]], 0), [("run", ((0, 0, 1), (0, 0, 0)))])
        self.assertEqual(lines([[0, 0], [0, 1]], 0), [("run", ((1, 0, 1), (0, 1, 0)))])

    def test_a_cell_with_four_open_gates(self):
        high_middle = [("run", ((0, 0, 1), (0, 1, 0))), ("run", ((1, 0, 1), (0, 0, 0)))]
        low_middle = [("run", ((0, 0, 1), (0, 0, 0))), ("run", ((1, 0, 1), (0, 1, 0)))]
        self.assertEqual(lines([[1, 0], [0, 1]], 0), high_middle)
        self.assertEqual(lines([[1, 0], [-1, 1]], 0), low_middle)

    def test_rings_and_runs_together_sorted(self):
        rows = [
            [1, 0, 0, 0, 0],
            [0, 0, 0, 0, 0],
            [0, 0, 0, 1, 0],
            [0, 0, 0, 0, 0],
            [0, 0, 0, 0, 0],
        ]
        ring = ("ring", ((2, 2, 0), (3, 2, 1), (3, 2, 0), (3, 1, 1)))
        self.assertEqual(lines(rows, 0), [ring, ("run", ((0, 0, 1), (0, 0, 0)))])

    def test_a_ring_in_a_ring(self):
        rows = [[0] * 5, [0, 1, 1, 1, 0], [0, 1, 0, 1, 0], [0, 1, 1, 1, 0], [0] * 5]
        told = lines(rows, 0)
        self.assertEqual([word for word, _ in told], ["ring", "ring"])
        self.assertEqual([len(path) for _, path in told], [12, 4])
        self.assertEqual(told[1], ("ring", ((1, 2, 0), (2, 1, 1), (2, 2, 0), (2, 2, 1))))

    def test_two_hills_aslant_are_one_ring_or_two(self):
        one = [[0] * 4, [0, 1, 0, 0], [0, 0, 1, 0], [0] * 4]
        self.assertEqual([len(path) for _, path in lines(one, 0)], [8])
        two = [[0] * 4, [0, 1, -1, 0], [0, 0, 1, 0], [0] * 4]
        self.assertEqual([len(path) for _, path in lines(two, 0)], [4, 4])

    def test_none(self):
        self.assertEqual(lines(HILL, 1), [])
        self.assertEqual(lines(HILL, -1), [])
        self.assertEqual(lines([[5, 5], [5, 5]], 5), [])
        self.assertEqual(lines(HILL, 10 ** 30), [])
        self.assertEqual(lines(HILL, -(10 ** 30)), [])

    def test_kinds(self):
        told = lines(HILL, 0)
        self.assertIs(told.__class__, list)
        self.assertIs(told[0].__class__, tuple)
        self.assertIs(told[0][1].__class__, tuple)

    def test_over_many_tables_each_line_is_as_the_points_say(self):
        for rows in small_tables():
            for cut in cuts_of(rows):
                told = lines(rows, cut)
                self.assertEqual(told, sorted(set(told)))
                for word, path in told:
                    self.check_line(rows, cut, word, path)

    def check_line(self, rows, cut, word, path):
        pairs = list(zip(path, path[1:]))
        if word == "ring":
            self.assertEqual(path[0], min(path))
            pairs.append((path[-1], path[0]))
        else:
            self.assertEqual(word, "run")
            self.assertNotIn(cell_by(OUT_OF, rows, cut, path[0]), cells(rows))
            self.assertNotIn(cell_by(INTO, rows, cut, path[-1]), cells(rows))
        for gate, after in pairs:
            cell = cell_by(INTO, rows, cut, gate)
            self.assertEqual(cell, cell_by(OUT_OF, rows, cut, after))
            self.assertIn(tuple(sorted((gate, after))), ties(rows, cut, *cell))

    def test_refuses_and_leaves_alone(self):
        self.assert_refuses_no_table(lambda rows: lines(rows, 0))
        self.assertTrue(self.assert_asks_cleanly(lambda rows: lines(rows, 0), HILL))


class LineAtTest(Case):
    def test_for_each_gate_of_each_line(self):
        for rows in small_tables():
            for cut in cuts_of(rows)[::2]:
                for line in lines(rows, cut):
                    for gate in line[1][:3] + line[1][-1:]:
                        self.assertEqual(line_at(rows, cut, gate), line)

    def test_for_all_gates_of_a_ring_and_a_run(self):
        for gate in HILL_RING[1]:
            self.assertEqual(line_at(HILL, 0, gate), HILL_RING)
        for gate in ((0, 0, 0), (0, 1, 0)):
            self.assertEqual(line_at([[1, 0], [1, 0]], 0, gate), ("run", ((0, 1, 0), (0, 0, 0))))

    def test_every_side_that_is_not_open(self):
        for x in range(-2, 5):
            for y in range(-2, 5):
                for way in (-1, 0, 1, 2):
                    if (x, y, way) not in gates(HILL, 0):
                        with self.assertRaises(NoGate):
                            line_at(HILL, 0, (x, y, way))

    def test_far_gates(self):
        for gate in [(10 ** 30, 0, 0), (0, -(10 ** 30), 1), (0, 1, 10 ** 5000)]:
            with self.assertRaises(NoGate):
                line_at(HILL, 0, gate)

    def test_refuses_and_leaves_alone(self):
        self.assert_refuses_no_table(lambda rows: line_at(rows, 0, (0, 0, 0)))
        self.assert_refuses_no_table(lambda rows: line_at(rows, 0, (9, 9, 9)))
        self.assert_asks_cleanly(lambda rows: line_at(rows, 0, (0, 1, 0)), HILL)


if __name__ == "__main__":
    unittest.main()
