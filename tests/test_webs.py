import copy
import itertools
import math
import random
import unittest
from fractions import Fraction

from heightrings.lines import lines
from heightrings.places import place
from heightrings.webs import meeting
from tests.samples import DEEP, mixed_tables

BIG = 999999999999
SQUARE = ("ring", ((0, 0), (4, 0), (4, 4), (0, 4)))


def run(*points):
    return ("run", points)


def ring(*points):
    return ("ring", points)


def common(a, b, c, d):
    """What two segments have in common: the least and the greatest place of it, or nothing."""
    (ax, ay), (bx, by), (cx, cy), (dx, dy) = a, b, c, d
    across = (bx - ax) * (dy - cy) - (by - ay) * (dx - cx)
    if across:
        part = Fraction((cx - ax) * (dy - cy) - (cy - ay) * (dx - cx), across)
        other = Fraction((cx - ax) * (by - ay) - (cy - ay) * (bx - ax), across)
        if 0 <= part <= 1 and 0 <= other <= 1:
            at = (ax + part * (bx - ax), ay + part * (by - ay))
            return (at, at)
        return None
    # Along one another, or single points: what they have in common lies between ends of theirs.
    shared = sorted([p for p in (a, b) if lies_on(p, c, d)] + [p for p in (c, d) if lies_on(p, a, b)])
    return (shared[0], shared[-1]) if shared else None


def lies_on(p, a, b):
    """Whether a point is a mean of a segment's ends."""
    far = (b[0] - a[0], b[1] - a[1])
    near = (p[0] - a[0], p[1] - a[1])
    if far == (0, 0):
        return near == (0, 0)
    axis = 0 if far[0] else 1
    part = Fraction(near[axis], far[axis])
    return 0 <= part <= 1 and (part * far[0], part * far[1]) == near


def expected_meeting(web):
    """By making all meetings."""
    some = []
    for k, (word, points) in enumerate(web):
        many = len(points) if word == "ring" else len(points) - 1
        some += [(k, i, points[i], points[(i + 1) % len(points)]) for i in range(many)]
    found = [(k, i, k, i) for k, i, a, b in some if a == b]
    for (k, i, a, b), (l, j, c, d) in itertools.combinations(some, 2):
        shared = common(a, b, c, d)
        allowed = set()
        if k == l and j == i + 1:
            allowed.add((c, c))
        if k == l and web[k][0] == "ring" and i == 0 and j == len(web[k][1]) - 1:
            allowed.add((a, a))
        if shared is not None and shared not in allowed:
            found.append((k, i, l, j))
    return min(found, default=None)


def web_at(rows, cuts):
    """The lines of some cuts laid over one another, all places made whole."""
    told = [(word, [place(rows, cut, gate) for gate in path]) for cut in cuts for word, path in lines(rows, cut)]
    scale = math.lcm(*[by for _, path in told for _, _, by in path])
    return [(word, tuple((x * scale // by, y * scale // by) for x, y, by in path)) for word, path in told]


class MeetingTest(unittest.TestCase):
    def assert_meets(self, web, expected):
        self.assertEqual(expected_meeting(web), expected)
        before = copy.deepcopy(web)
        self.assertEqual(meeting(web), expected)
        self.assertEqual(web, before)
        # What is moved, turned or mirrored meets all the same.
        for change in (
            lambda x, y: (x - 7, y + 3), lambda x, y: (-y, x), lambda x, y: (-x, y), lambda x, y: (x, -y),
            lambda x, y: (1000 * x, 1000 * y), lambda x, y: (x + y, x - 2 * y),
        ):
            changed = [(word, tuple(change(x, y) for x, y in points)) for word, points in web]
            self.assertEqual(meeting(changed), expected)

    def test_no_lines(self):
        self.assertIsNone(meeting([]))

    def test_clean_ones(self):
        self.assert_meets([run((0, 0), (1, 0))], None)
        self.assert_meets([ring((0, 0), (1, 0), (0, 1))], None)
        self.assert_meets([SQUARE, ring((1, 1), (3, 1), (3, 3), (1, 3)), run((5, 0), (5, 9), (-1, 9))], None)
        self.assert_meets([run((0, 0), (9, 0)), run((0, 1), (9, 1)), run((0, -1), (5, -2), (9, -1))], None)

    def test_segments_that_cross(self):
        self.assert_meets([run((0, 0), (4, 4)), run((0, 4), (4, 0))], (0, 0, 1, 0))
        self.assert_meets([run((0, 0), (5, 1)), run((1, 1), (2, 0))], (0, 0, 1, 0))
        self.assert_meets([SQUARE, run((2, 2), (9, 2))], (0, 1, 1, 0))
        self.assert_meets([SQUARE, run((2, 2), (-9, 2))], (0, 3, 1, 0))

    def test_an_end_that_touches(self):
        self.assert_meets([run((0, 0), (4, 0)), run((2, 0), (2, 5))], (0, 0, 1, 0))
        self.assert_meets([run((2, 0), (2, 5)), run((0, 0), (4, 0))], (0, 0, 1, 0))
        self.assert_meets([run((0, 0), (4, 2)), run((2, 1), (7, -5))], (0, 0, 1, 0))
        self.assert_meets([run((0, 0), (4, 2)), run((7, -5), (2, 1))], (0, 0, 1, 0))

    def test_a_point_in_common(self):
        self.assert_meets([run((0, 0), (4, 0)), run((4, 0), (4, 5))], (0, 0, 1, 0))
        self.assert_meets([run((0, 0), (4, 0)), run((4, 0), (8, 0))], (0, 0, 1, 0))
        self.assert_meets([run((0, 0), (4, 0)), run((8, 0), (4, 0))], (0, 0, 1, 0))
        self.assert_meets([run((0, 0), (4, 0)), run((-3, 1), (0, 0))], (0, 0, 1, 0))

    def test_on_one_another(self):
        self.assert_meets([run((0, 0), (4, 0)), run((1, 0), (3, 0))], (0, 0, 1, 0))
        self.assert_meets([run((1, 0), (3, 0)), run((0, 0), (4, 0))], (0, 0, 1, 0))
        self.assert_meets([run((0, 0), (4, 4)), run((3, 3), (7, 7))], (0, 0, 1, 0))
        self.assert_meets([run((0, 0), (4, 4)), run((0, 0), (4, 4))], (0, 0, 1, 0))
        self.assert_meets([run((0, 0), (4, 4)), run((4, 4), (0, 0))], (0, 0, 1, 0))

    def test_apart_by_little(self):
        self.assert_meets([run((0, 0), (4, 0)), run((5, 0), (8, 0))], None)
        self.assert_meets([run((0, 0), (4, 4)), run((5, 5), (8, 8))], None)
        self.assert_meets([run((0, 0), (4, 0)), run((2, 1), (2, 5))], None)
        self.assert_meets([run((0, 0), (10, 10)), run((1, 0), (10, 9))], None)
        self.assert_meets([run((0, 0), (5, 3)), run((2, 1), (5, 2))], None)
        # The boxes round them overlap, and each lies on one side of the other.
        self.assert_meets([run((0, 0), (10, 10)), run((6, 5), (9, 1))], None)
        self.assert_meets([run((6, 5), (9, 1)), run((0, 0), (10, 10))], None)
        # Straight ahead of an end, but not on it.
        self.assert_meets([run((0, 0), (4, 2)), run((6, 3), (5, 0))], None)
        self.assert_meets([run((6, 3), (5, 0)), run((0, 0), (4, 2))], None)

    def test_following_ones_with_the_point_between_alone(self):
        self.assert_meets([run((0, 0), (4, 0), (8, 0))], None)
        self.assert_meets([run((0, 0), (4, 0), (4, 4))], None)
        self.assert_meets([run((0, 0), (4, 0), (1, 1))], None)
        self.assert_meets([run((0, 0), (4, 0), (8, 1), (12, 0))], None)

    def test_following_ones_with_more_in_common(self):
        self.assert_meets([run((0, 0), (4, 0), (2, 0))], (0, 0, 0, 1))
        self.assert_meets([run((0, 0), (4, 0), (0, 0))], (0, 0, 0, 1))
        self.assert_meets([run((0, 0), (4, 0), (-3, 0))], (0, 0, 0, 1))
        self.assert_meets([run((0, 0), (4, 2), (2, 1))], (0, 0, 0, 1))
        self.assert_meets([run((9, 9), (0, 0), (4, 2), (2, 1))], (0, 1, 0, 2))

    def test_those_of_one_line_that_do_not_follow(self):
        self.assert_meets([run((0, 0), (4, 0), (4, 4), (0, 0))], (0, 0, 0, 2))
        self.assert_meets([run((0, 0), (4, 0), (4, 4), (2, 4), (2, -1))], (0, 0, 0, 3))
        self.assert_meets([run((0, 0), (4, 0), (4, 4), (2, 4), (2, 1))], None)
        self.assert_meets([ring((0, 0), (4, 4), (4, 0), (0, 4))], (0, 0, 0, 2))
        self.assert_meets([ring((0, 0), (4, 0), (0, 4), (4, 4))], (0, 1, 0, 3))

    def test_the_last_and_the_first_of_a_ring(self):
        self.assert_meets([SQUARE], None)
        self.assert_meets([ring((2, 0), (4, 0), (4, 4), (0, 0))], None)
        self.assert_meets([ring((0, 0), (4, 0), (4, 4), (6, 0), (7, 0))], (0, 0, 0, 4))
        self.assert_meets([ring((0, 0), (4, 0), (5, 5), (2, 0))], (0, 0, 0, 2))
        self.assert_meets([run((0, 0), (4, 0), (4, 4), (0, 4), (0, 0))], (0, 0, 0, 3))

    def test_a_ring_of_three_points(self):
        self.assert_meets([ring((0, 0), (4, 0), (0, 4))], None)
        self.assert_meets([ring((0, 0), (4, 0), (2, 0))], (0, 0, 0, 1))
        self.assert_meets([ring((2, 0), (0, 0), (4, 0))], (0, 0, 0, 1))
        self.assert_meets([ring((0, 0), (2, 0), (4, 0))], (0, 0, 0, 2))
        self.assert_meets([ring((4, 0), (0, 0), (2, 0))], (0, 0, 0, 1))
        self.assert_meets([ring((0, 0), (4, 0), (0, 0))], (0, 0, 0, 1))
        self.assert_meets([ring((0, 0), (0, 0), (4, 0))], (0, 0, 0, 0))
        self.assert_meets([ring((0, 0), (4, 0), (4, 0))], (0, 0, 0, 2))
        self.assert_meets([ring((1, 1), (1, 1), (1, 1))], (0, 0, 0, 0))

    def test_two_like_points_behind_one_another(self):
        self.assert_meets([run((3, 3), (3, 3))], (0, 0, 0, 0))
        self.assert_meets([run((0, 0), (3, 3), (3, 3))], (0, 1, 0, 1))
        self.assert_meets([run((9, 9), (8, 8)), run((3, 3), (3, 3), (0, 0))], (1, 0, 1, 0))
        # The segments on either side have the point in common, too, and don't follow one another.
        self.assert_meets([run((0, 0), (3, 3), (3, 3), (6, 0))], (0, 0, 0, 2))
        self.assert_meets([ring((0, 0), (4, 0), (0, 4), (0, 0))], (0, 0, 0, 2))

    def test_single_points_meet_others_too(self):
        self.assert_meets([run((0, 0), (4, 0)), run((2, 0), (2, 0))], (0, 0, 1, 0))
        self.assert_meets([run((0, 0), (4, 0)), run((5, 0), (5, 0))], (1, 0, 1, 0))
        self.assert_meets([run((0, 0), (4, 0)), run((2, 1), (2, 1))], (1, 0, 1, 0))
        self.assert_meets([run((0, 0), (4, 4)), run((2, 1), (2, 1))], (1, 0, 1, 0))
        self.assert_meets([run((2, 1), (2, 1)), run((0, 0), (4, 4))], (0, 0, 0, 0))
        self.assert_meets([run((0, 0), (4, 4), (9, 4)), run((7, 4), (7, 4), (7, 8))], (0, 1, 1, 0))

    def test_a_line_told_once_more(self):
        self.assert_meets([SQUARE, SQUARE], (0, 0, 1, 0))
        other = run((9, 9), (12, 12))
        self.assert_meets([other, SQUARE, other], (0, 0, 2, 0))
        self.assert_meets([other, SQUARE, run((20, 0), (20, 1)), SQUARE], (1, 0, 3, 0))

    def test_the_least_among_several(self):
        cross = [run((0, 5), (9, 5)), run((1, 0), (1, 4), (1, 9)), run((2, 0), (2, 9)), run((3, 9), (3, 0))]
        self.assert_meets(cross, (0, 0, 1, 1))
        self.assert_meets([cross[2], cross[3], cross[0]], (0, 0, 2, 0))
        self.assert_meets([run((0, 0), (4, 0), (2, 0)), run((1, 1), (1, -1))], (0, 0, 0, 1))
        self.assert_meets([run((0, 0), (4, 0), (4, 5), (2, 5), (2, 5)), run((5, 5), (3, 5))], (0, 1, 1, 0))
        self.assert_meets([run((0, 0), (5, 0)), run((8, 8), (8, 8)), run((1, 1), (1, -1))], (0, 0, 2, 0))

    def test_numbers_of_twelve_figures(self):
        self.assert_meets([run((-BIG, -BIG), (BIG, BIG)), run((-BIG, BIG), (BIG, -BIG))], (0, 0, 1, 0))
        self.assert_meets([run((-BIG, -BIG), (BIG, BIG)), run((0, 1), (BIG - 1, BIG))], None)
        # Two that all but touch: the second lies beside the first by less than a part of its length.
        self.assert_meets([run((0, 0), (BIG, BIG - 1)), run((1, 1), (BIG - 1, BIG - 1))], None)
        self.assert_meets([run((0, 0), (BIG, BIG - 1)), run((1, 1), (BIG - 1, BIG - 2))], (0, 0, 1, 0))
        self.assert_meets([run((-BIG, 0), (BIG, 1)), run((0, 0), (0, 1))], (0, 0, 1, 0))
        self.assert_meets([run((-BIG, 0), (BIG, 1)), run((-1, 0), (-1, -5))], None)

    def test_over_many_webs(self):
        source = random.Random(14)
        clean = 0
        for turn in range(6000):
            size = source.choice((2, 3, 5, 9))
            web = []
            for _ in range(source.randint(1, 3)):
                word = source.choice(("ring", "run"))
                many = source.randint(3 if word == "ring" else 2, 5)
                web.append((word, tuple((source.randint(-1, size), source.randint(0, size)) for _ in range(many))))
            expected = expected_meeting(web)
            clean += expected is None
            self.assertEqual(meeting(web), expected, web)
        self.assertGreater(clean, 300)

    def test_every_pair_of_segments_of_a_small_field(self):
        field = [(x, y) for x in range(3) for y in range(3)]
        for a, b, c in itertools.product(field, repeat=3):
            self.assertEqual(meeting([run(a, b, c)]), expected_meeting([run(a, b, c)]))
            self.assertEqual(meeting([ring(a, b, c)]), expected_meeting([ring(a, b, c)]))
            for d in field:
                self.assertEqual(meeting([run(a, b), run(c, d)]), expected_meeting([run(a, b), run(c, d)]))

    def test_lines_of_several_cuts_never_meet(self):
        for rows in [DEEP] + list(mixed_tables(12, 15, range(0, 40, 3))):
            web = web_at(rows, [0, 13, 5])
            self.assertIsNone(meeting(web))
            if web:
                self.assertEqual(meeting(web + web[-1:]), (len(web) - 1, 0, len(web), 0))

    def test_told_the_same_whatever_is_asked_in_between(self):
        web = [SQUARE, run((2, 2), (9, 2))]
        self.assertEqual(meeting(web), (0, 1, 1, 0))
        self.assertIsNone(meeting([SQUARE]))
        self.assertEqual(meeting(web), (0, 1, 1, 0))
        self.assertIsInstance(meeting(web), tuple)


if __name__ == "__main__":
    unittest.main()
