"""What point 3 promises, over many small tables and all their cuts."""

import itertools
import unittest
from fractions import Fraction

from heightrings.areas import region_areas, ring_area
from heightrings.back import told_back
from heightrings.bands import tree
from heightrings.gates import gates, ties
from heightrings.lines import lines
from heightrings.maps import pins_of, scale_of, web_of
from heightrings.regions import regions, sides
from heightrings.tables import mirrored, raised, span, turned
from heightrings.thin import thinned
from heightrings.webs import meeting
from heightrings.within import holds
from tests.samples import cuts_of, ringed_tables, small_tables
from tests.thinning import what_is_wrong


def told_as_lines(some):
    """Lines of a changed table, told as they must be: rings from the least gate on, all sorted."""
    told = []
    for word, path in some:
        at = path.index(min(path)) if word == "ring" else 0
        told.append((word, tuple(path[at:] + path[:at])))
    return sorted(told)


def turned_gate(gate, tall):
    x, y, way = gate
    return (tall - 1 - y, x, 1) if way == 0 else (tall - 2 - y, x, 0)


def mirrored_gate(gate, wide):
    x, y, way = gate
    return (wide - 2 - x, y, 0) if way == 0 else (wide - 1 - x, y, 1)


def ends_of(gate):
    """The two points that a gate lies between."""
    x, y, way = gate
    return (x, y), (x + 1 - way, y + way)


def lies_left(point, gate, after):
    """Whether a point lies to the left of the way from a gate's middle to another's."""
    (a, b), (c, d) = [[first + second for first, second in zip(*ends_of(some))] for some in (gate, after)]
    # Rows go down, so left is where the turn is below 0.
    return (c - a) * (2 * point[1] - b) - (d - b) * (2 * point[0] - a) < 0


def is_at_edge(gate, wide, tall):
    """Whether a gate lies on the table's edge."""
    x, y, way = gate
    return y in (0, tall - 1) if way == 0 else x in (0, wide - 1)


class PromiseTest(unittest.TestCase):
    def test_each_open_gate_lies_in_just_one_line_once(self):
        for rows in small_tables():
            for cut in cuts_of(rows):
                passed = [gate for _, path in lines(rows, cut) for gate in path]
                self.assertEqual(sorted(passed), gates(rows, cut))

    def test_a_line_goes_on_where_the_gates_are_tied_and_ends_at_the_edge(self):
        for rows in list(small_tables())[::2] + list(ringed_tables())[::3]:
            wide, tall = len(rows[0]), len(rows)
            for cut in cuts_of(rows):
                tied = {pair for x in range(wide - 1) for y in range(tall - 1) for pair in ties(rows, cut, x, y)}
                for word, path in lines(rows, cut):
                    steps = list(zip(path, path[1:])) + ([(path[-1], path[0])] if word == "ring" else [])
                    self.assertTrue(all(tuple(sorted(step)) in tied for step in steps))
                    if word == "run":
                        self.assertTrue(is_at_edge(path[0], wide, tall) and is_at_edge(path[-1], wide, tall))

    def test_a_line_has_all_high_points_beside_it_to_its_left(self):
        for rows in list(small_tables())[::2] + list(ringed_tables())[::3]:
            for cut in cuts_of(rows):
                for word, path in lines(rows, cut):
                    steps = list(zip(path, path[1:])) + ([(path[-1], path[0])] if word == "ring" else [])
                    for gate, after in steps:
                        for x, y in ends_of(gate):
                            self.assertEqual(lies_left((x, y), gate, after), rows[y][x] > cut)

    def test_regions_and_lines_hang_together_as_a_tree(self):
        for rows in small_tables():
            for cut in cuts_of(rows):
                many = len(regions(rows, cut))
                self.assertEqual(many, len(lines(rows, cut)) + 1)
                reached = {0}
                for _ in range(many):
                    for pair in sides(rows, cut):
                        if reached & set(pair):
                            reached |= set(pair)
                self.assertEqual(len(reached), many)

    def test_the_areas_of_the_regions_come_to_the_table(self):
        for rows in small_tables():
            for cut in cuts_of(rows):
                areas = [Fraction(*area) for area in region_areas(rows, cut)]
                self.assertEqual(len(areas), len(regions(rows, cut)))
                self.assertEqual(sum(areas), (len(rows) - 1) * (len(rows[0]) - 1))

    def test_the_area_of_a_ring_is_that_of_all_regions_within_it(self):
        for rows in ringed_tables():
            for cut in cuts_of(rows):
                areas = [Fraction(*area) for area in region_areas(rows, cut)]
                for line in lines(rows, cut):
                    if line[0] == "ring":
                        within = [holds(line, *some[0]) for _, some in regions(rows, cut)]
                        area = sum(area for area, inside in zip(areas, within) if inside)
                        self.assertEqual(Fraction(*ring_area(rows, cut, line)), area)

    def test_all_points_of_a_region_lie_in_a_ring_or_none_does(self):
        for rows in ringed_tables():
            for cut in cuts_of(rows):
                for line in lines(rows, cut):
                    if line[0] == "ring":
                        for _, some in regions(rows, cut):
                            self.assertEqual(len({holds(line, x, y) for x, y in some}), 1)

    def test_all_lines_and_bands_hang_together_as_one_tree(self):
        for rows in list(small_tables())[:-20:2] + list(ringed_tables()):
            nodes = tree(rows)
            below = {(node[0] - 1, at): k for k, node in enumerate(nodes) for at in node[1]}
            above = {(node[0], at): k for k, node in enumerate(nodes) for at in node[2]}
            every = [(cut, at) for cut in cuts_of(rows) for at in range(len(lines(rows, cut)))]
            self.assertLessEqual(set(every), set(below))
            # Each line joins the node beneath it to the one above it.
            self.assertEqual(set(below), set(above))
            self.assertEqual(len(nodes), len(below) + 1)
            reached = {0}
            while True:
                more = {k for line in below for k in (below[line], above[line])
                        if {below[line], above[line]} & reached}
                if more <= reached:
                    break
                reached |= more
            self.assertEqual(len(reached), len(nodes))

    def test_lines_of_several_cuts_never_meet(self):
        for rows in list(small_tables())[::3] + list(ringed_tables())[::4]:
            for many in (1, 2, 3):
                for cuts in list(itertools.permutations(cuts_of(rows), many))[:9 * many:many]:
                    self.assertIsNone(meeting(web_of(rows, list(cuts))))

    def test_a_thinned_web_of_a_table_keeps_what_is_promised(self):
        for rows in list(small_tables())[::8] + list(ringed_tables())[:6]:
            scale = scale_of(rows)
            for many in (1, 2, 3):
                for cuts in list(itertools.combinations(cuts_of(rows)[::-1], many))[-3:]:
                    web = web_of(rows, list(cuts))
                    if sum(len(points) for _, points in web) <= 60:
                        for bound in (0, scale // 3, 2 * scale):
                            told = thinned(web, bound, pins_of(rows))
                            self.assertIsNone(what_is_wrong(web, bound, pins_of(rows), told), (rows, cuts, bound))

    def test_from_its_lines_the_very_table_is_told_back(self):
        for rows in list(small_tables())[:-20] + list(ringed_tables()):
            least, greatest = span(rows)
            cuts = [lines(rows, cut)[::-1] for cut in range(least, greatest)]
            self.assertEqual(told_back(len(rows[0]), len(rows), least, cuts), rows)

    def test_a_turned_table_has_the_turned_lines(self):
        for rows in small_tables():
            for cut in cuts_of(rows):
                some = [(word, [turned_gate(gate, len(rows)) for gate in path]) for word, path in lines(rows, cut)]
                self.assertEqual(lines(turned(rows), cut), told_as_lines(some))

    def test_a_mirrored_table_has_the_mirrored_lines(self):
        # In a mirror left is right, so the lines go the other way.
        for rows in small_tables():
            wide = len(rows[0])
            for cut in cuts_of(rows):
                some = [(word, [mirrored_gate(gate, wide) for gate in path[::-1]]) for word, path in lines(rows, cut)]
                self.assertEqual(lines(mirrored(rows), cut), told_as_lines(some))

    def test_a_raised_table_has_the_raised_lines(self):
        for rows in small_tables():
            for by in (-(10 ** 6), -1, 3, 10 ** 8):
                higher = raised(rows, by)
                for cut in cuts_of(rows)[1::2]:
                    self.assertEqual(lines(higher, cut + by), lines(rows, cut))
                    self.assertEqual(regions(higher, cut + by), regions(rows, cut))


if __name__ == "__main__":
    unittest.main()
