import copy
import itertools
import random
import subprocess
import sys
import unittest

from heightrings.lines import lines
from heightrings.looker import first_wrong
from tests.samples import Case, cuts_of, mixed_tables, small_tables

# Two rings, one in the other, and a run in the corner above at the left.
ROWS = [
    [9, 0, 0, 0, 0, 0],
    [0, 0, 0, 0, 0, 0],
    [0, 0, 9, 9, 9, 0],
    [0, 0, 9, 0, 9, 0],
    [0, 0, 9, 9, 9, 0],
    [0, 0, 0, 0, 0, 0],
]
OUTER, INNER, RUN = GOOD = lines(ROWS, 4)


def expected_wrong(rows, cut, some):
    """By comparing with the lines of the cut."""
    good = lines(rows, cut)
    for at, line in enumerate(some):
        if line not in good or line in some[:at]:
            return at
    return None if len(some) == len(good) else len(some)


def spoilt_lines(line, other_gate):
    """Wrong lines that are made of a good one of three gates or more, or of two."""
    word, path = line
    yield (word, ())
    yield ("ring" if word == "run" else "run", path)
    for other_word in ("", "Ring", "ring ", "RUN", "runs", "line"):
        yield (other_word, path)
    yield (word, path[::-1])
    yield (word, path + path)
    yield (word, path + path[:1])
    yield (word, path[:1] + path)
    for at in range(1, len(path)):
        yield (word, path[at:] + path[:at])
    for at in range(len(path)):
        yield (word, path[:at] + path[at + 1:])
        yield (word, path[:at + 1] + path[at:])
        yield (word, path[:at] + (other_gate,) + path[at + 1:])
        yield (word, path[:at] + (other_gate,) + path[at:])
        x, y, way = path[at]
        no_gates = ((x, y, way + 2), (x, y, -1), (x, -y - 1, way), (10 ** 30, y, way))
        for gate in ((x, y, 1 - way), (x + 1, y, way)) + no_gates:
            yield (word, path[:at] + (gate,) + path[at + 1:])
    for at in range(len(path) - 1):
        yield (word, path[:at] + (path[at + 1], path[at]) + path[at + 2:])


class LookerTest(Case):
    def test_the_sample_is_as_it_should_be(self):
        self.assertEqual([word for word, _ in GOOD], ["ring", "ring", "run"])
        self.assertGreater(len(OUTER[1]), len(INNER[1]))

    def test_good_lines_in_any_order(self):
        for some in itertools.permutations(GOOD):
            self.assertIsNone(first_wrong(ROWS, 4, list(some)))

    def test_some_left_out(self):
        for many in range(3):
            for some in itertools.permutations(GOOD, many):
                self.assertEqual(first_wrong(ROWS, 4, list(some)), many)

    def test_no_lines_at_all(self):
        self.assertEqual(first_wrong(ROWS, 4, []), 0)
        self.assertIsNone(first_wrong(ROWS, 9, []))
        self.assertIsNone(first_wrong([[1, 1], [1, 1]], 0, []))

    def test_lines_of_another_cut_or_table(self):
        self.assertEqual(first_wrong(ROWS, 9, GOOD), 0)
        self.assertEqual(first_wrong(ROWS, -1, [RUN]), 0)
        self.assertEqual(first_wrong([[0, 0, 0], [0, 9, 0], [0, 0, 0]], 4, [RUN]), 0)

    def test_a_spoilt_line_at_each_place(self):
        for line in GOOD:
            others = [other for other in GOOD if other != line]
            for spoilt in spoilt_lines(line, others[0][1][0]):
                with self.subTest(spoilt=spoilt):
                    self.assertNotIn(spoilt, GOOD)
                    self.assertEqual(first_wrong(ROWS, 4, [spoilt]), 0)
                    self.assertEqual(first_wrong(ROWS, 4, [spoilt] + others), 0)
                    self.assertEqual(first_wrong(ROWS, 4, others[:1] + [spoilt] + others[1:]), 1)
                    self.assertEqual(first_wrong(ROWS, 4, others + [spoilt]), 2)
                    self.assertEqual(first_wrong(ROWS, 4, GOOD + [spoilt]), 3)

    def test_a_line_told_once_more(self):
        for line in GOOD:
            self.assertEqual(first_wrong(ROWS, 4, [line, line]), 1)
            self.assertEqual(first_wrong(ROWS, 4, GOOD + [line]), 3)
            self.assertEqual(first_wrong(ROWS, 4, [line] + [other for other in GOOD if other != line] + [line]), 3)
        self.assertEqual(first_wrong(ROWS, 4, [OUTER, INNER, INNER, RUN]), 2)

    def test_two_lines_told_as_one(self):
        self.assertEqual(first_wrong(ROWS, 4, [RUN, ("ring", OUTER[1] + INNER[1])]), 1)
        self.assertEqual(first_wrong(ROWS, 4, [RUN, ("ring", INNER[1] + OUTER[1])]), 1)

    def test_one_line_told_as_two(self):
        half = len(OUTER[1]) // 2
        self.assertEqual(first_wrong(ROWS, 4, [("ring", OUTER[1][:half]), ("ring", OUTER[1][half:]), INNER, RUN]), 0)
        self.assertEqual(first_wrong(ROWS, 4, [RUN, ("run", OUTER[1][:half]), INNER]), 1)

    def test_a_ring_round_twice_and_three_times(self):
        for times in (2, 3, 500):
            self.assertEqual(first_wrong(ROWS, 4, [RUN, ("ring", INNER[1] * times), OUTER]), 1)

    def test_several_wrong_ones(self):
        wrong = ("ring", INNER[1][::-1])
        self.assertEqual(first_wrong(ROWS, 4, [OUTER, wrong, RUN, wrong, ("", ())]), 1)
        self.assertEqual(first_wrong(ROWS, 4, [OUTER, OUTER, wrong]), 1)
        self.assertEqual(first_wrong(ROWS, 4, [wrong, OUTER, OUTER]), 0)

    def test_ties_of_the_other_kind(self):
        rows = [[1, 0], [0, 1]]
        other = lines([[1, 0], [-1, 1]], 0)
        self.assertIsNone(first_wrong(rows, 0, lines(rows, 0)))
        self.assertIsNone(first_wrong([[1, 0], [-1, 1]], 0, other))
        self.assertEqual(first_wrong(rows, 0, other), 0)
        self.assertEqual(first_wrong(rows, 0, [lines(rows, 0)[1], other[0]]), 1)

    def test_very_many_and_very_far_gates(self):
        far = 10 ** 5000
        self.assertEqual(first_wrong(ROWS, 4, [RUN, ("run", ((far, -far, far),) * 3)]), 1)
        self.assertEqual(first_wrong(ROWS, 4, [RUN, ("run", ((0, 0, 0),) * 20000)]), 1)
        self.assertEqual(first_wrong(ROWS, 4, [RUN, ("ring", INNER[1] * 20000)]), 1)
        self.assertEqual(first_wrong(ROWS, 4, [RUN, ("run", tuple((x, 0, 0) for x in range(20000)))]), 1)
        self.assertEqual(first_wrong(ROWS, 4, [("ring", ())] * 20000), 0)

    def test_over_many_tables(self):
        for rows in small_tables():
            for cut in cuts_of(rows):
                good = lines(rows, cut)
                self.assertIsNone(first_wrong(rows, cut, good))
                self.assertIsNone(first_wrong(rows, cut, good[::-1]))
                for at in range(len(good)):
                    self.assertEqual(first_wrong(rows, cut, good[:at] + good[at + 1:]), len(good) - 1)

    def test_over_many_spoilt_lists(self):
        source = random.Random(5)
        for rows in mixed_tables(60, 6, range(2)):
            good = lines(rows, 0)
            for _ in range(20):
                some = source.sample(good, source.randint(0, len(good)))
                if good:
                    extra = source.choice(good)
                    wrong = list(spoilt_lines(extra, source.choice(good)[1][0]))
                    some.insert(source.randint(0, len(some)), source.choice([extra, source.choice(wrong)]))
                self.assertEqual(first_wrong(rows, 0, some), expected_wrong(rows, 0, some))

    def test_makes_no_line(self):
        asked = "import sys, heightrings.looker; sys.exit('heightrings.lines' in sys.modules)"
        self.assertEqual(subprocess.run([sys.executable, "-c", asked], check=False).returncode, 0)

    def test_refuses_and_leaves_alone(self):
        self.assert_refuses_no_table(lambda rows: first_wrong(rows, 0, []))
        self.assert_refuses_no_table(lambda rows: first_wrong(rows, 0, [("", ()), RUN]))
        some = [RUN, OUTER, ("ring", INNER[1][::-1])]
        kept = copy.deepcopy(some)
        self.assertEqual(self.assert_asks_cleanly(lambda rows: first_wrong(rows, 4, some), ROWS), 2)
        self.assertEqual(some, kept)


if __name__ == "__main__":
    unittest.main()
