import copy
import unittest

from heightrings.bands import nodes_at, tree, word_of
from heightrings.cells import cells, corners, points
from heightrings.errors import TooSteep
from heightrings.lines import lines
from heightrings.regions import regions
from heightrings.tables import raised
from tests.samples import BOUND, NO_TABLES, Case, mixed_tables, ringed_tables, small_tables

FAR = 10 ** 30
HILL = [[0, 0, 0], [0, 1, 0], [0, 0, 0]]
ROUND_HILL = tuple(point for point in points(HILL) if point != (1, 1))


def some_tables():
    """Tables whose heights are at most 9 apart."""
    yield from list(small_tables())[:-20:4]
    yield from list(ringed_tables())[::2]
    yield from mixed_tables(25, 10, range(-2, 8))


def beside(rows, cut, line):
    """The points to the left and those to the right of a line."""
    left, right = set(), set()
    for x, y, way in line[1]:
        for a, b in ((x, y), (x + 1 - way, y + way)):
            (left if rows[b][a] > cut else right).add((a, b))
    return left, right


def expected_nodes(rows, height):
    """By trying each high region of the cut beneath with each low region of the cut above."""
    highs = [set(within) for word, within in regions(rows, height - 1) if word == "high"]
    lows = [set(within) for word, within in regions(rows, height) if word == "low"]
    return sorted(expected_node(rows, height, *pair) for pair in (
        (high, low) for high in highs for low in lows if hang_together(rows, height, high, low)
    ))


def hang_together(rows, height, high, low):
    if any(rows[y][x] == height for x, y in high & low):
        return True
    return any(abs(x - a) + abs(y - b) == 1 for x, y in high for a, b in low)


def expected_node(rows, height, high, low):
    below, above, middles = [], [], []
    for at, line in enumerate(lines(rows, height - 1)):
        left, right = beside(rows, height - 1, line)
        if left <= high and right <= low:
            below.append(at)
    for at, line in enumerate(lines(rows, height)):
        left, right = beside(rows, height, line)
        if left <= high and right <= low:
            above.append(at)
    for x, y in cells(rows):
        around = set(corners(x, y))
        if sum(rows[b][a] for a, b in around) - 4 * height in (-2, -1, 0, 1) and around & high and around & low:
            middles.append((x, y))
    on_height = sorted((x, y) for x, y in high & low if rows[y][x] == height)
    return (height, tuple(below), tuple(above), tuple(on_height), tuple(middles))


class NodesAtTest(Case):
    def test_a_hill(self):
        self.assertEqual(nodes_at(HILL, 0), [(0, (), (0,), ROUND_HILL, tuple(cells(HILL)))])
        self.assertEqual(nodes_at(HILL, 1), [(1, (0,), (), ((1, 1),), ())])

    def test_heights_all_alike(self):
        for height in (-BOUND, -1, 0, 7, BOUND):
            rows = [[height] * 3, [height] * 3]
            node = (height, (), (), tuple(points(rows)), ((0, 0), (1, 0)))
            self.assertEqual(nodes_at(rows, height), [node])
            self.assertEqual(nodes_at(rows, height - 1), [])
            self.assertEqual(nodes_at(rows, height + 1), [])

    def test_beyond_the_span(self):
        for height in (-1, 2, 3, BOUND, -BOUND, FAR, -FAR, 10 ** 5000, -(10 ** 5000)):
            self.assertEqual(nodes_at(HILL, height), [])

    def test_between_heights_without_points(self):
        rows = [[0, 9], [0, 9]]
        for height in range(1, 9):
            # The four heights come to 18: that is 4 times 5 and -2.
            middle = ((0, 0),) if height == 5 else ()
            self.assertEqual(nodes_at(rows, height), [(height, (0,), (0,), (), middle)])

    def test_two_hills_and_what_is_between_them(self):
        rows = [[2, 0, 3], [2, 0, 3]]
        low_points, left, right = ((1, 0), (1, 1)), ((0, 0), (0, 1)), ((2, 0), (2, 1))
        # At the cut 0 the run along the 2s goes up from (0, 1, 0), that along the 3s down from (1, 0, 0).
        self.assertEqual([path[0] for _, path in lines(rows, 0)], [(0, 1, 0), (1, 0, 0)])
        self.assertEqual(nodes_at(rows, 0), [(0, (), (0, 1), low_points, ())])
        self.assertEqual(nodes_at(rows, 1), [(1, (0,), (0,), (), ((0, 0),)), (1, (1,), (1,), (), ())])
        self.assertEqual(nodes_at(rows, 2), [(2, (0,), (), left, ()), (2, (1,), (0,), (), ((1, 0),))])
        self.assertEqual(nodes_at(rows, 3), [(3, (0,), (), right, ())])

    def test_lines_that_join(self):
        rows = [[0, 1, 2], [0, 1, 2], [0, 1, 0]]
        # The two low corners are parted at the cut 0, one at the cut 1.
        self.assertEqual(len(lines(rows, 0)), 2)
        self.assertEqual(len(lines(rows, 1)), 1)
        self.assertEqual([word_of(node) for node in nodes_at(rows, 1)], ["joining"])
        self.assertEqual(nodes_at(rows, 1), expected_nodes(rows, 1))

    def test_sums_round_the_bounds_of_the_band(self):
        for height in (-BOUND + 5, -3, 0, 4, BOUND - 8):
            for more, inside in ((-4, False), (-3, False), (-2, True), (-1, True), (0, True), (1, True),
                                 (2, False), (3, False)):
                # Two points of the height, one below and one above: the cell has corners in both regions.
                low, high = (more - 1, 1) if more < 0 else (-1, more + 1)
                rows = [[height, height], [height + low, height + high]]
                self.assertEqual(sum(map(sum, rows)), 4 * height + more)
                with self.subTest(height=height, more=more):
                    node, = nodes_at(rows, height)
                    self.assertEqual(node[4], ((0, 0),) if inside else ())
                    self.assertEqual(node[3], ((0, 0), (1, 0)))

    def test_a_middle_in_the_band_but_no_point(self):
        # At the cut 0 the high ones hang together through the middle, at the cut 1 the low ones do.
        rows = [[0, 3], [2, 0]]
        self.assertEqual(nodes_at(rows, 1), [(1, (0, 1), (0, 1), (), ((0, 0),))])
        self.assertEqual(word_of(nodes_at(rows, 1)[0]), "knot")

    def test_over_many_tables(self):
        for rows in some_tables():
            for height in range(min(map(min, rows)) - 1, max(map(max, rows)) + 2):
                told = nodes_at(rows, height)
                self.assertEqual(told, expected_nodes(rows, height))
                self.assertTrue(all(isinstance(part, tuple) for node in told for part in node[1:]))

    def test_over_steep_tables(self):
        for rows in mixed_tables(12, 11, (-BOUND, -40, 0, 3, 77, BOUND)):
            for height in (-BOUND, -BOUND + 1, -41, -40, 0, 1, 3, 4, 76, 77, 78, BOUND - 1, BOUND):
                if min(map(min, rows)) <= height <= max(map(max, rows)):
                    self.assertEqual(nodes_at(rows, height), expected_nodes(rows, height))
                else:
                    self.assertEqual(nodes_at(rows, height), [])

    def test_refuses_and_leaves_alone(self):
        self.assert_refuses_no_table(lambda rows: nodes_at(rows, 0))
        self.assert_refuses_no_table(lambda rows: nodes_at(rows, FAR))
        self.assertEqual(len(self.assert_asks_cleanly(lambda rows: nodes_at(rows, 1), [[1, 0, 2], [1, 0, 2]])), 2)
        self.assertEqual(self.assert_asks_cleanly(lambda rows: nodes_at(rows, 5), HILL), [])


class TreeTest(Case):
    def test_a_hill(self):
        self.assertEqual(tree(HILL), nodes_at(HILL, 0) + nodes_at(HILL, 1))

    def test_heights_all_alike(self):
        rows = [[4, 4], [4, 4]]
        self.assertEqual(tree(rows), [(4, (), (), tuple(points(rows)), ((0, 0),))])

    def test_by_rising_heights_and_sorted(self):
        for rows in some_tables():
            told = tree(rows)
            least, greatest = min(map(min, rows)), max(map(max, rows))
            self.assertEqual(told, [node for c in range(least, greatest + 1) for node in nodes_at(rows, c)])
            self.assertEqual(told, sorted(told))
            self.assertEqual((told[0][0], told[-1][0]), (least, greatest))

    def test_each_line_stands_once_above_and_once_below(self):
        for rows in some_tables():
            told = tree(rows)
            least, greatest = min(map(min, rows)), max(map(max, rows))
            every = [(cut, at) for cut in range(least, greatest) for at in range(len(lines(rows, cut)))]
            self.assertEqual(sorted((node[0], at) for node in told for at in node[2]), every)
            self.assertEqual(sorted((node[0] - 1, at) for node in told for at in node[1]), every)
            self.assertEqual(len(told), len(every) + 1)

    def test_each_point_stands_once(self):
        for rows in some_tables():
            self.assertEqual(sorted(point for node in tree(rows) for point in node[3]), points(rows))

    def test_each_cell_stands_once(self):
        # A cell's middle lies in just one band, and it holds its corners of either side together.
        for rows in some_tables():
            self.assertEqual(sorted(cell for node in tree(rows) for cell in node[4]), cells(rows))

    def test_a_node_without_points_and_cells_is_an_on(self):
        for rows in some_tables():
            for node in tree(rows):
                if not node[3] and not node[4]:
                    self.assertEqual(word_of(node), "on")

    def test_how_steep_a_table_may_be(self):
        for least in (-BOUND, -5, 0, BOUND - 9):
            rows = [[least, least], [least, least + 9]]
            self.assertEqual([node[0] for node in tree(rows)], list(range(least, least + 10)))
        for least, apart in ((-BOUND, 10), (-5, 10), (0, 10), (0, 11), (3, 100), (BOUND - 10, 10), (-BOUND, 2 * BOUND)):
            for rows in ([[least, least], [least, least + apart]], [[least + apart, least, least], [least] * 3]):
                with self.assertRaises(TooSteep):
                    tree(rows)

    def test_a_raised_table_has_the_raised_tree(self):
        for rows in list(some_tables())[::5]:
            for by in (-(10 ** 6), 1, 10 ** 8):
                higher = [(node[0] + by,) + node[1:] for node in tree(rows)]
                self.assertEqual(tree(raised(rows, by)), higher)

    def test_refuses_and_leaves_alone(self):
        self.assert_refuses_no_table(tree)
        for rows, _ in NO_TABLES:
            # Steep as well: that it is no table goes ahead.
            with self.assertRaises(ValueError) as caught:
                tree([row + [10 ** 12] for row in rows])
            self.assertNotIsInstance(caught.exception, TooSteep)
        self.assertTrue(self.assert_asks_cleanly(tree, [[1, 0, 2], [1, 0, 2]]))

    def test_told_as_before_whatever_is_asked_in_between(self):
        before = tree(HILL)
        kept = copy.deepcopy(before)
        tree([[1, 0, 2], [1, 0, 2]])
        with self.assertRaises(TooSteep):
            tree([[0, 0], [0, 99]])
        nodes_at(HILL, 1)
        self.assertEqual(before, kept)
        self.assertEqual(tree(HILL), kept)


class WordOfTest(unittest.TestCase):
    def test_each_word_by_its_lines_alone(self):
        words = {
            (0, 0): "all", (0, 1): "birth", (0, 2): "birth", (0, 3): "birth",
            (1, 0): "end", (2, 0): "end", (3, 0): "end", (1, 1): "on",
            (2, 1): "joining", (3, 1): "joining", (1, 2): "parting", (1, 3): "parting",
            (2, 2): "knot", (2, 3): "knot", (3, 2): "knot", (9, 9): "knot",
        }
        for (below, above), word in words.items():
            for height in (0, -5, FAR):
                for on_height in ((), ((0, 0),), ((1, 1), (5, 5))):
                    for middles in ((), ((0, 0),)):
                        node = (height, tuple(range(below)), tuple(range(4, 4 + above)), on_height, middles)
                        self.assertEqual(word_of(node), word)

    def test_words_of_told_nodes(self):
        self.assertEqual([word_of(node) for node in tree(HILL)], ["birth", "end"])
        self.assertEqual([word_of(node) for node in tree([[4, 4], [4, 4]])], ["all"])
        self.assertEqual([word_of(node) for node in tree([[2, 0, 3], [2, 0, 3]])],
                         ["birth", "on", "on", "end", "on", "end"])
        seen = {word_of(node) for rows in some_tables() for node in tree(rows)}
        self.assertEqual(seen, {"all", "birth", "end", "on", "joining", "parting", "knot"})


if __name__ == "__main__":
    unittest.main()
