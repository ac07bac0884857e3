import copy
import itertools
import random
import unittest

from heightrings.back import told_back
from heightrings.errors import HeightError, NoBack
from heightrings.lines import lines
from heightrings.tables import mirrored, span, turned
from tests.samples import BOUND, DEEP, all_tables, mixed_tables, spoil

FAR = 10 ** 30
HILL = [[0, 0, 0], [0, 3, 0], [0, 0, 0]]
SLOPE = [[0, 1], [0, 1]]
# Its cell is cut through twice at the cut 0 and at the cut 1.
SADDLE = [[0, 2], [2, 0]]


def all_lines(rows):
    """The lines of each cut from the least height on to beneath the greatest."""
    least, greatest = span(rows)
    return [lines(rows, cut) for cut in range(least, greatest)]


def key_of(cuts):
    return tuple(tuple(sorted(some)) for some in cuts)


def tables_by_lines(wide, tall, heights):
    """Every table of a size that has the least of the heights, by its lines."""
    return {key_of(all_lines(rows)): rows for rows in all_tables(wide, tall, heights) if span(rows)[0] == heights[0]}


def without(cuts, at, k):
    """A cut's lines but for one."""
    return replaced(cuts, at, cuts[at][:k] + cuts[at][k + 1:])


def replaced(cuts, at, some):
    return cuts[:at] + [some] + cuts[at + 1:]


def spoilt_lines(line, other):
    """Lines that are told otherwise than they should be."""
    word, path = line
    yield (word, path[1:] + path[:1])
    yield (word, path[::-1])
    yield ("ring" if word == "run" else "run", path)
    yield (word + "s", path)
    yield ("", path)
    yield (word, ())
    yield ("", ())
    yield (word, path[:1])
    yield (word, path[1:])
    yield (word, path[:-1])
    yield (word, path + path)
    yield (word, path + path[:1])
    yield (word, path[:1] + path)
    yield (word, path[:-1] + ((FAR, FAR, 0),))
    yield (word, ((-FAR, 0, 1),) + path[1:])
    yield (word, path[:-1] + ((0, 0, 2),))
    yield (word, ((0, 0, -1),) + path[1:])
    yield (word, ((-1, 0, 0),) + path)
    yield (word, path[:1] + ((9, 9, 1),) + path[1:])
    yield (word, tuple((x + 1, y, way) for x, y, way in path))
    yield (word, tuple((x, y + 1, way) for x, y, way in path))
    yield (word, tuple((x, y, 1 - way) for x, y, way in path))
    yield (word, other)


def spoilt_cuts(cuts):
    """Cuts that are told otherwise than they should be."""
    for at, some in enumerate(cuts):
        for k, (word, path) in enumerate(some):
            other = cuts[at - 1][0][1]
            for line in spoilt_lines((word, path), other):
                yield replaced(cuts, at, some[:k] + [line] + some[k + 1:])
                yield replaced(cuts, at, some + [line])
                yield replaced(cuts, at, [line] + some)
            yield replaced(cuts, at, some + [some[k]])
            yield without(cuts, at, k)
        yield cuts[:at] + cuts[at + 1:]
        yield cuts[:at] + [some] + cuts[at:]
        yield replaced(cuts, at, some + cuts[at - 1])
        yield replaced(cuts, at, [])
    for one, other in itertools.combinations(range(len(cuts)), 2):
        changed = list(cuts)
        changed[one], changed[other] = cuts[other], cuts[one]
        yield changed
    yield cuts[::-1]


class BackCase(unittest.TestCase):
    def assert_refuses(self, w, h, base, cuts):
        before = copy.deepcopy(cuts)
        with self.assertRaises(NoBack, msg=(w, h, base, cuts)) as caught:
            told_back(w, h, base, cuts)
        self.assertIsInstance(caught.exception, HeightError)
        self.assertEqual(cuts, before)

    def assert_tells(self, rows):
        cuts = all_lines(rows)
        before = copy.deepcopy(cuts)
        told = told_back(len(rows[0]), len(rows), span(rows)[0], cuts)
        self.assertEqual(told, rows)
        self.assertEqual(cuts, before)
        spoil(told)
        self.assertEqual(told_back(len(rows[0]), len(rows), span(rows)[0], cuts), rows)


class BackTest(BackCase):
    def test_small_ones(self):
        self.assertEqual(told_back(2, 2, 0, [[("run", ((0, 0, 0), (0, 1, 0)))]]), SLOPE)
        self.assertEqual(told_back(2, 2, 0, [[("run", ((0, 1, 0), (0, 0, 0)))]]), [[1, 0], [1, 0]])
        for rows in (HILL, SADDLE, DEEP, [[1, 2, 3], [4, 5, 6]], [[-3, -5], [-4, -4]]):
            self.assert_tells(rows)
            self.assert_tells(turned(rows))
            self.assert_tells(mirrored(rows))

    def test_no_cuts_at_all(self):
        for base in (-BOUND, -1, 0, 7, BOUND):
            self.assertEqual(told_back(2, 2, base, []), [[base, base], [base, base]])
            self.assertEqual(told_back(7, 3, base, []), [[base] * 7] * 3)
        told = told_back(3, 2, 5, [])
        told[0][0] = 6
        self.assertEqual(told[1], [5, 5, 5])
        self.assertEqual(told_back(3, 2, 5, []), [[5] * 3] * 2)

    def test_every_small_table(self):
        for wide, tall, heights in ((2, 2, range(4)), (3, 2, range(3)), (2, 3, range(3)), (3, 3, range(2))):
            for rows in all_tables(wide, tall, heights):
                self.assertEqual(told_back(wide, tall, span(rows)[0], all_lines(rows)), rows)

    def test_tables_of_all_sizes(self):
        for rows in list(mixed_tables(60, 61, range(10))) + list(mixed_tables(40, 62, range(-4, 0))):
            self.assert_tells(rows)

    def test_nine_cuts(self):
        for rows in mixed_tables(20, 63, range(1, 9)):
            rows[0][0], rows[-1][-1] = 0, 9
            self.assertEqual(len(all_lines(rows)), 9)
            self.assert_tells(rows)

    def test_lines_in_any_order(self):
        source = random.Random(64)
        for rows in mixed_tables(40, 65, range(4)):
            cuts = all_lines(rows)
            for some in cuts:
                source.shuffle(some)
            self.assertEqual(told_back(len(rows[0]), len(rows), span(rows)[0], cuts), rows)

    def test_the_same_lines_at_another_base(self):
        cuts = all_lines(HILL)
        for base in (-BOUND, -7, 1, BOUND - 3):
            self.assertEqual(told_back(3, 3, base, cuts), [[base] * 3, [base, base + 3, base], [base] * 3])

    def test_bases_beyond_the_bounds(self):
        cuts = all_lines(HILL)
        for base in (-BOUND - 1, BOUND - 2, BOUND, BOUND + 1, FAR, -FAR, 10 ** 5000):
            self.assert_refuses(3, 3, base, cuts)
        for base in (-BOUND - 1, BOUND + 1, FAR, -FAR):
            self.assert_refuses(2, 2, base, [])

    def test_another_size(self):
        for w, h in ((2, 3), (3, 2), (2, 2), (2, 7), (7, 2)):
            self.assert_refuses(w, h, 0, all_lines(HILL))
        # A run that ends within the greater table is no line of it.
        for w, h in ((2, 3), (3, 3), (2, 7)):
            self.assert_refuses(w, h, 0, all_lines(SLOPE))
        # But to the right nothing lacks, nor does a ring lack anything beyond it.
        self.assertEqual(told_back(3, 2, 0, all_lines(SLOPE)), [[0, 1, 1], [0, 1, 1]])
        self.assertEqual(told_back(4, 3, 0, all_lines(HILL)), [[0] * 4, [0, 3, 0, 0], [0] * 4])

    def test_a_size_that_no_table_has(self):
        for w, h in ((1, 2), (2, 1), (0, 2), (2, 0), (-1, 2), (8, 2), (2, 8), (-FAR, FAR), (FAR, 2)):
            self.assert_refuses(w, h, 0, [])
            self.assert_refuses(w, h, 0, all_lines(SLOPE))

    def test_a_cut_without_lines(self):
        self.assert_refuses(2, 2, 0, [[]])
        self.assert_refuses(3, 3, 0, all_lines(HILL) + [[]])
        self.assert_refuses(3, 3, 0, [[]] + all_lines(HILL))

    def test_a_line_left_out_or_told_twice(self):
        for rows in (DEEP, [[0, 2, 0], [2, 0, 2], [0, 2, 0]], [[1, 0, 1], [0, 0, 0], [1, 0, 1]]):
            cuts = all_lines(rows)
            for at, some in enumerate(cuts):
                for k in range(len(some)):
                    doubled = replaced(cuts, at, some + [some[k]])
                    self.assert_refuses(len(rows[0]), len(rows), 0, doubled)
        # Without the corner's line the corner is like the others: another table, but a table.
        cuts = all_lines([[1, 0, 1], [0, 0, 0], [0, 0, 0]])
        self.assertEqual(told_back(3, 3, 0, without(cuts, 0, 0)), [[0, 0, 1], [0, 0, 0], [0, 0, 0]])

    def test_cuts_exchanged_told_twice_or_left_out(self):
        cuts = all_lines([[0, 1, 2, 3], [0, 1, 2, 3]])
        for order in itertools.permutations(range(3)):
            if order != (0, 1, 2):
                self.assert_refuses(4, 2, 0, [cuts[at] for at in order])
        self.assertEqual(told_back(4, 2, 0, cuts[1:]), [[0, 0, 1, 2]] * 2)
        self.assertEqual(told_back(4, 2, 0, cuts[:1] + cuts[2:]), [[0, 1, 1, 2]] * 2)
        self.assertEqual(told_back(4, 2, 0, cuts[:2] + cuts[1:]), [[0, 1, 3, 4]] * 2)
        # Where the heights' mean goes by all cuts, none may lack.
        cuts = all_lines(SADDLE)
        self.assert_refuses(2, 2, 0, cuts[1:])
        self.assert_refuses(2, 2, 0, cuts[::-1])
        self.assert_refuses(2, 2, 0, cuts + cuts[1:])

    def test_told_backward(self):
        for rows in (HILL, SADDLE, DEEP):
            for at, some in enumerate(all_lines(rows)):
                for k, (word, path) in enumerate(some):
                    backward = some[:k] + [(word, path[::-1])] + some[k + 1:]
                    self.assert_refuses(len(rows[0]), len(rows), 0, replaced(all_lines(rows), at, backward))
        # The one run of a slope goes as well the other way.
        self.assertEqual(told_back(2, 2, 0, [[("run", ((0, 1, 0), (0, 0, 0)))]]), [[1, 0], [1, 0]])

    def test_a_gate_that_is_none_of_the_table_s(self):
        for gate in ((FAR, 0, 0), (0, -FAR, 1), (1, 0, 0), (0, 1, 1), (-1, 0, 0), (0, 0, 2), (0, 0, -1), (0, 0, FAR)):
            self.assert_refuses(2, 2, 0, [[("run", ((0, 0, 0), (0, 1, 0), gate))]])
            self.assert_refuses(2, 2, 0, [[("run", (gate, (0, 0, 0), (0, 1, 0)))]])
            self.assert_refuses(2, 2, 0, [[("run", ((0, 0, 0), gate))]])
            self.assert_refuses(2, 2, 0, [[("run", (gate, gate))]])
            self.assert_refuses(2, 2, 0, [[("run", ((0, 0, 0), (0, 1, 0))), ("run", (gate,))]])

    def test_gates_far_out_in_great_numbers(self):
        path = tuple((k, -k, k) for k in range(5000))
        self.assert_refuses(2, 2, 0, [[("run", path)]])
        self.assert_refuses(2, 2, 0, [[("run", ((0, 0, 0), (0, 1, 0)) * 3000)]])

    def test_ties_that_go_by_the_heights(self):
        # At the cut 0 the middle is high, at the cut 1 low; the corner that is higher changes that.
        self.assert_tells([[0, 2], [2, 0]])
        self.assert_tells([[0, 9], [1, 0]])
        low = [("run", ((0, 0, 0), (0, 0, 1))), ("run", ((0, 1, 0), (1, 0, 1)))]
        high = [("run", ((0, 0, 0), (1, 0, 1))), ("run", ((0, 1, 0), (0, 0, 1)))]
        # One cut alone: the mean is a half, which is high.
        self.assertEqual(lines([[0, 1], [1, 0]], 0), low)
        self.assertEqual(told_back(2, 2, 0, [low]), [[0, 1], [1, 0]])
        self.assert_refuses(2, 2, 0, [high])
        self.assertEqual(lines([[0, 2], [2, 0]], 1), high)
        self.assertEqual(told_back(2, 2, 0, [low, high]), [[0, 2], [2, 0]])
        self.assert_refuses(2, 2, 0, [low, low])
        self.assert_refuses(2, 2, 0, [high, low])

    def test_high_points_that_are_low_beneath(self):
        run = ("run", ((0, 0, 0), (0, 1, 0)))
        back = ("run", ((0, 1, 0), (0, 0, 0)))
        self.assertEqual(told_back(2, 2, 0, [[run], [run]]), [[0, 2], [0, 2]])
        self.assert_refuses(2, 2, 0, [[run], [back]])
        across = ("run", ((1, 0, 1), (0, 0, 1)))
        self.assert_refuses(2, 2, 0, [[run], [across]])
        self.assert_refuses(2, 2, 0, [[across], [run]])

    def test_spoilt_lines_of_small_tables_against_all_tables(self):
        refused = told = 0
        for wide, tall, heights, some in ((2, 2, range(4), 9), (3, 2, range(3), 40), (2, 3, range(3), 40),
                                          (3, 3, range(2), 30)):
            known = tables_by_lines(wide, tall, heights)
            for rows in list(known.values())[1::some]:
                for cuts in spoilt_cuts(all_lines(rows)):
                    if len(cuts) >= len(heights):
                        continue
                    expected = known.get(key_of(cuts))
                    if expected is None:
                        refused += 1
                        self.assert_refuses(wide, tall, 0, cuts)
                    else:
                        told += 1
                        self.assertEqual(told_back(wide, tall, 0, cuts), expected)
        self.assertGreater(refused, 5000)
        self.assertGreater(told, 100)

    def test_spoilt_lines_of_great_tables(self):
        for rows in mixed_tables(4, 66, range(4)):
            for cuts in itertools.islice(spoilt_cuts(all_lines(rows)), 0, None, 7):
                try:
                    told = told_back(len(rows[0]), len(rows), span(rows)[0], cuts)
                except NoBack:
                    self.assertNotEqual(key_of(cuts), key_of(all_lines(rows)))
                else:
                    self.assertEqual(key_of(all_lines(told)), key_of(cuts))
                    self.assertEqual(span(told)[0], span(rows)[0])

    def test_told_the_same_whatever_is_asked_in_between(self):
        cuts = all_lines(HILL)
        self.assertEqual(told_back(3, 3, 0, cuts), HILL)
        told_back(2, 2, 0, all_lines(SLOPE))
        self.assert_refuses(3, 3, 0, cuts + [[]])
        self.assertEqual(told_back(3, 3, 0, cuts), HILL)


if __name__ == "__main__":
    unittest.main()
