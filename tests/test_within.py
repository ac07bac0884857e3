import copy
import unittest

from heightrings.cells import points
from heightrings.lines import lines
from heightrings.regions import regions, sides
from heightrings.tables import mirrored, turned
from heightrings.within import crossed, holds, lies_in
from tests.samples import DEEP, TWO_IN_ONE, Case, cuts_of, ringed_tables, small_tables

FAR = 10 ** 30
VERY_FAR = 10 ** 5000
HILL = [[0, 0, 0], [0, 1, 0], [0, 0, 0]]
RING = ("ring", ((0, 1, 0), (1, 1, 1), (1, 1, 0), (1, 0, 1)))


def reached(start, pairs):
    """The regions that hang together with one, over these pairs."""
    found = {start}
    for _ in pairs:
        for pair in pairs:
            if found & set(pair):
                found |= set(pair)
    return found


def expected_within(rows, cut):
    """By the tree of regions: what a ring parts from the table's corner lies in it."""
    pairs = sides(rows, cut)
    corner = [at for at, (_, within) in enumerate(regions(rows, cut)) if (0, 0) in within][0]
    told = [[] for _ in pairs]
    for k, (word, _) in enumerate(lines(rows, cut)):
        outside = reached(corner, pairs[:k] + pairs[k + 1:])
        for at, pair in enumerate(pairs):
            if word == "ring" and at != k and not outside & set(pair):
                told[at].append(k)
    return [tuple(some) for some in told]


class CrossedTest(unittest.TestCase):
    def test_gates_ahead_at_and_behind_the_point(self):
        line = ("ring", ((0, 1, 0), (2, 1, 0), (3, 1, 0), (5, 1, 0)))
        for x, many in ((-1, 0), (0, 0), (1, 1), (2, 1), (3, 2), (4, 3), (5, 3), (6, 4), (7, 4), (99, 4)):
            self.assertEqual(crossed(line, x, 1), many)

    def test_gates_of_other_rows(self):
        line = ("ring", ((0, 0, 0), (0, 1, 0), (0, 1, 0), (0, 2, 0)))
        for y, many in ((-1, 0), (0, 1), (1, 2), (2, 1), (3, 0)):
            self.assertEqual(crossed(line, 1, y), many)

    def test_gates_of_the_other_way_and_of_none(self):
        line = ("ring", ((0, 1, 1), (1, 1, 1), (0, 0, 1), (0, 1, 2), (0, 1, -1), (0, 1, FAR)))
        self.assertEqual([crossed(line, x, y) for x in range(4) for y in range(4)], [0] * 16)

    def test_each_gate_as_often_as_it_stands_there(self):
        self.assertEqual(crossed(("ring", ((0, 1, 0), (1, 1, 1), (0, 1, 0))), 1, 1), 2)
        self.assertEqual(crossed(("ring", ((0, 1, 0),) * 5), 3, 1), 5)

    def test_any_word_and_no_gates(self):
        for word in ("ring", "run", "", "any"):
            self.assertEqual(crossed((word, ()), 5, 5), 0)
            self.assertEqual(crossed((word, ((0, 1, 0), (1, 1, 0))), 2, 1), 2)

    def test_points_and_gates_below_nought_and_far(self):
        line = ("ring", ((-3, -2, 0), (-FAR, -2, 0), (FAR, -2, 0), (0, VERY_FAR, 0)))
        self.assertEqual(crossed(line, -3, -2), 1)
        self.assertEqual(crossed(line, -2, -2), 2)
        self.assertEqual(crossed(line, FAR, -2), 2)
        self.assertEqual(crossed(line, FAR + 1, -2), 3)
        self.assertEqual(crossed(line, -FAR, -2), 0)
        self.assertEqual(crossed(line, -VERY_FAR, -2), 0)
        self.assertEqual(crossed(line, VERY_FAR, -2), 3)
        self.assertEqual(crossed(line, 1, VERY_FAR), 1)
        self.assertEqual(crossed(line, 1, -VERY_FAR), 0)

    def test_a_told_line(self):
        self.assertEqual([[crossed(RING, x, y) for x in range(3)] for y in range(3)], [[0, 0, 0], [0, 1, 2], [0, 0, 0]])


class HoldsTest(unittest.TestCase):
    def test_odd_even_and_none(self):
        for many in range(6):
            line = ("ring", tuple((k, 0, 0) for k in range(many)))
            self.assertIs(holds(line, many, 0), many % 2 == 1)
            self.assertIs(holds(line, many, 1), False)

    def test_like_gates(self):
        self.assertIs(holds(("ring", ((0, 0, 0), (0, 0, 0))), 1, 0), False)
        self.assertIs(holds(("ring", ((0, 0, 0), (0, 0, 0), (0, 0, 0))), 1, 0), True)

    def test_no_gates_and_far_points(self):
        self.assertIs(holds(("ring", ()), 1, 0), False)
        self.assertIs(holds(("ring", ((-5, -7, 0),)), FAR, -7), True)
        self.assertIs(holds(("ring", ((-5, -7, 0),)), -FAR, -7), False)

    def test_a_told_ring(self):
        for x, y in points(HILL):
            self.assertIs(holds(RING, x, y), (x, y) == (1, 1))

    def test_nothing_lies_in_a_run(self):
        self.assertIs(holds(("run", ((0, 0, 0), (0, 1, 0))), 1, 0), False)


class LiesInTest(Case):
    def test_no_lines(self):
        self.assertEqual(lies_in(HILL, 1), [])
        self.assertEqual(lies_in(HILL, -1), [])
        self.assertEqual(lies_in(HILL, FAR), [])

    def test_one_ring_lies_not_in_itself(self):
        self.assertEqual(lies_in(HILL, 0), [()])

    def test_several_deep(self):
        self.assertEqual([len(path) for _, path in lines(DEEP, 0)], [20, 12, 4])
        self.assertEqual(lies_in(DEEP, 0), [(), (0,), (0, 1)])

    def test_two_side_by_side_in_one(self):
        self.assertEqual(lies_in(TWO_IN_ONE, 0), [(), (0,), (0,)])

    def test_side_by_side(self):
        rows = [[0, 0, 0, 0, 0], [0, 1, 0, 1, 0], [0, 0, 0, 0, 0]]
        self.assertEqual(lies_in(rows, 0), [(), ()])

    def test_the_outer_ring_is_told_ahead(self):
        # It reaches farther to the left, so its least gate is the lesser.
        for rows in ringed_tables():
            for cut in cuts_of(rows):
                for at, around in enumerate(lies_in(rows, cut)):
                    self.assertTrue(all(k < at for k in around))

    def test_runs_beside_rings(self):
        rows = [[1, 0, 0, 0, 0], [0, 0, 1, 0, 0], [0, 0, 0, 0, 0], [0, 0, 0, 0, 1]]
        self.assertEqual([word for word, _ in lines(rows, 0)], ["ring", "run", "run"])
        self.assertEqual(lies_in(rows, 0), [(), (), ()])

    def test_a_ring_that_a_run_goes_round(self):
        rows = [[1, 1, 1, 1], [1, 0, 0, 0], [1, 0, 1, 0], [1, 0, 0, 0], [1, 1, 1, 1]]
        self.assertEqual([word for word, _ in lines(rows, 0)], ["ring", "run"])
        self.assertEqual(lies_in(rows, 0), [(), ()])

    def test_over_many_tables(self):
        deepest = 0
        for rows in list(small_tables()) + list(ringed_tables()):
            for cut in cuts_of(rows):
                told = lies_in(rows, cut)
                self.assertEqual(told, expected_within(rows, cut))
                deepest = max([deepest] + [len(around) for around in told])
        self.assertEqual(deepest, 2)

    def test_both_points_of_a_first_gate_lie_in_another_ring_or_neither_does(self):
        for rows in list(small_tables())[::3] + list(ringed_tables()):
            for cut in cuts_of(rows):
                some = lines(rows, cut)
                for at, around in enumerate(lies_in(rows, cut)):
                    self.assertIsInstance(around, tuple)
                    x, y, way = some[at][1][0]
                    for k, other in enumerate(some):
                        if k != at and other[0] == "ring":
                            self.assertIs(holds(other, x, y), k in around)
                            self.assertIs(holds(other, x + 1 - way, y + way), k in around)

    def test_told_for_turned_and_mirrored_tables_too(self):
        for rows in (DEEP, TWO_IN_ONE):
            for other in (turned(rows), mirrored(rows), turned(turned(rows))):
                self.assertEqual(lies_in(other, 0), lies_in(rows, 0))

    def test_refuses_and_leaves_alone(self):
        self.assert_refuses_no_table(lambda rows: lies_in(rows, 0))
        self.assertEqual(self.assert_asks_cleanly(lambda rows: lies_in(rows, 0), copy.deepcopy(DEEP))[2], (0, 1))


if __name__ == "__main__":
    unittest.main()
