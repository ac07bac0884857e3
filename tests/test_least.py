import copy
import itertools
import random
import unittest

from heightrings.least import least_kept
from heightrings.maps import scale_of, web_of
from tests.samples import mixed_tables
from tests.thinning import distance_squared

BIG = 999999999999
GREAT = 10 ** 13


def reaches(points, bound):
    """For each two places, the lesser ahead, whether the one may follow the other."""
    found = {}
    for i, j in itertools.combinations(range(len(points)), 2):
        between = points[i + 1:j]
        found[i, j] = all(distance_squared(p, points[i], points[j]) <= bound ** 2 for p in between)
    return found


def keeps(places, reach):
    return all(reach[pair] for pair in zip(places, places[1:]))


def least_of_every_choice(points, reach):
    """By trying all choices of places, the small ones first."""
    last = len(points) - 1
    for many in range(last):
        for inner in itertools.combinations(range(1, last), many):
            if keeps((0, *inner, last), reach):
                return many + 2
    return None


def least_by_steps(points, reach):
    """By going from the first place to all that can be reached with one more, till the last is among them."""
    reached, many = {0}, 1
    while len(points) - 1 not in reached:
        reached |= {j for i, j in reach if i in reached and reach[i, j]}
        many += 1
    return many


class LeastCase(unittest.TestCase):
    def assert_kept(self, points, bound, expected):
        """The least number, and places by which it is so kept."""
        before = copy.deepcopy(points)
        told = least_kept(points, bound)
        self.assertEqual(points, before)
        self.assertIsInstance(told, tuple)
        many, places = told
        self.assertIsInstance(places, list)
        self.assertEqual(many, expected, (points, bound))
        self.assertEqual(len(places), many)
        self.assertEqual(places, sorted(set(places)))
        self.assertEqual((places[0], places[-1]), (0, len(points) - 1))
        for i, j in zip(places, places[1:]):
            for point in points[i + 1:j]:
                self.assertLessEqual(distance_squared(point, points[i], points[j]), bound ** 2)


class LeastTest(LeastCase):
    def test_two_points(self):
        for points in ([(0, 0), (5, 5)], [(3, 3), (3, 3)], [(-BIG, BIG), (BIG, -BIG)]):
            for bound in (0, 1, GREAT):
                self.assert_kept(points, bound, 2)
                self.assertEqual(least_kept(points, bound), (2, [0, 1]))

    def test_points_on_one_straight_line(self):
        self.assert_kept([(0, 0), (1, 0), (2, 0)], 0, 2)
        self.assert_kept([(0, 0), (2, 1), (4, 2), (10, 5), (20, 10)], 0, 2)
        self.assert_kept([(3 * k, -k) for k in range(40)], 0, 2)
        self.assert_kept([(0, 0), (0, 0), (1, 1), (1, 1), (2, 2)], 0, 2)

    def test_folded_back(self):
        points = [(0, 0), (10, 0), (5, 0)]
        self.assert_kept(points, 0, 3)
        self.assert_kept(points, 4, 3)
        self.assert_kept(points, 5, 2)
        # To and fro on one line, beyond neither end.
        self.assert_kept([(0, 0), (6, 0), (2, 0), (8, 0)], 0, 2)
        self.assert_kept([(0, 0), (-3, 0), (8, 0)], 2, 3)
        self.assert_kept([(0, 0), (-3, 0), (8, 0)], 3, 2)

    def test_the_first_and_the_last_alike(self):
        # Between them lies a point alone, not a straight line through it.
        points = [(0, 0), (3, 4), (0, 0)]
        self.assert_kept(points, 0, 3)
        self.assert_kept(points, 4, 3)
        self.assert_kept(points, 5, 2)
        self.assert_kept([(1, 1), (1, 1), (1, 1), (2, 1), (1, 1)], 0, 3)
        self.assert_kept([(1, 1), (1, 1), (1, 1), (2, 1), (1, 1)], 1, 2)

    def test_all_alike(self):
        for many in (2, 3, 7, 40):
            for bound in (0, 3):
                self.assert_kept([(4, -9)] * many, bound, 2)

    def test_a_bend(self):
        points = [(0, 0), (4, 3), (8, 0)]
        self.assert_kept(points, 0, 3)
        self.assert_kept(points, 2, 3)
        self.assert_kept(points, 3, 2)
        self.assert_kept(points, GREAT, 2)

    def test_bound_nought(self):
        self.assert_kept([(0, 0), (1, 0), (2, 0), (2, 1), (2, 2), (0, 2)], 0, 4)
        self.assert_kept([(k, k * k) for k in range(12)], 0, 12)
        self.assertEqual(least_kept([(0, 0), (1, 0), (2, 0), (2, 1), (2, 2), (0, 2)], 0), (4, [0, 2, 4, 5]))

    def test_going_far_first_is_not_the_least(self):
        # From the first place one segment reaches the last but two; the least way takes a nearer one.
        source = random.Random(51)
        shorter = 0
        for _ in range(300):
            points = [(k, source.randint(0, 6)) for k in range(9)]
            reach = reaches(points, 2)
            at, greedy = 0, 1
            while at < 8:
                at = max(j for i, j in reach if i == at and reach[i, j])
                greedy += 1
            least = least_of_every_choice(points, reach)
            shorter += least < greedy
            self.assert_kept(points, 2, least)
        self.assertGreater(shorter, 5)

    def test_against_every_choice(self):
        source = random.Random(52)
        for _ in range(500):
            size = source.choice((2, 4, 9, 30))
            points = [(source.randint(-size, size), source.randint(-size, size)) for _ in range(source.randint(2, 9))]
            for bound in (0, 1, 2, size):
                self.assert_kept(points, bound, least_of_every_choice(points, reaches(points, bound)))

    def test_bounds_step_by_step(self):
        source = random.Random(53)
        points = [(2 * k, source.randint(0, 12)) for k in range(10)]
        told = []
        for bound in range(14):
            expected = least_of_every_choice(points, reaches(points, bound))
            self.assert_kept(points, bound, expected)
            told.append(expected)
        self.assertEqual(told, sorted(told, reverse=True))
        self.assertEqual((told[0], told[-1]), (9, 2))

    def test_forty_points(self):
        source = random.Random(54)
        for turn in range(12):
            points = [(k * 5, source.randint(0, 40)) for k in range(40)]
            if turn % 3 == 2:
                points = [(source.randint(0, 60), source.randint(0, 60)) for _ in range(40)]
            for bound in (0, 3, 9, 15, 30, 100):
                self.assert_kept(points, bound, least_by_steps(points, reaches(points, bound)))

    def test_forty_points_that_any_choice_keeps(self):
        # Were each way walked by itself, this would never end.
        self.assert_kept([(k % 2, 0) for k in range(40)], 1, 2)
        self.assert_kept([(k, 0) for k in range(40)], 1, 2)
        self.assert_kept([(k, 100 * (k % 2)) for k in range(40)], 1, 40)

    def test_numbers_of_twelve_figures(self):
        self.assert_kept([(-BIG, -BIG), (0, 1), (BIG, BIG)], 0, 3)
        self.assert_kept([(-BIG, -BIG), (0, 1), (BIG, BIG)], 1, 2)
        self.assert_kept([(-BIG, -BIG), (0, 0), (BIG, BIG)], 0, 2)
        self.assert_kept([(0, 0), (BIG - 1, BIG - 2), (BIG, BIG - 1)], 0, 3)
        self.assert_kept([(-BIG, 0), (BIG, 0), (-BIG, 0)], 2 * BIG - 1, 3)
        self.assert_kept([(-BIG, 0), (BIG, 0), (-BIG, 0)], 2 * BIG, 2)
        source = random.Random(55)
        for _ in range(20):
            points = [(source.randint(-BIG, BIG), source.randint(-BIG, BIG)) for _ in range(7)]
            for bound in (0, BIG // 7, BIG // 2, BIG, 10 ** 12, GREAT):
                self.assert_kept(points, bound, least_of_every_choice(points, reaches(points, bound)))

    def test_lines_of_told_webs(self):
        for rows in mixed_tables(12, 56, range(-30, 30)):
            scale = scale_of(rows)
            for word, path in web_of(rows, [-4, 11]):
                points = list(path)
                for bound in (0, scale // 2, 2 * scale):
                    self.assert_kept(points, bound, least_by_steps(points, reaches(points, bound)))

    def test_told_lists_are_the_asker_s_own(self):
        points = [(0, 0), (4, 3), (8, 0), (9, 9)]
        many, places = least_kept(points, 1)
        kept = list(places)
        places.append(99)
        least_kept([(0, 0), (1, 0), (2, 0)], 0)
        self.assertEqual(least_kept(points, 1), (many, kept))
        self.assertEqual(least_kept(list(points), 1), (many, kept))


if __name__ == "__main__":
    unittest.main()
