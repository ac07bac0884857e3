import unittest
from fractions import Fraction

from heightrings.fractions import common, shortened, total

NUMBERS = (-(10 ** 30), -360, -7, -2, -1, 0, 1, 2, 6, 9, 35, 48, 10 ** 30)


class CommonTest(unittest.TestCase):
    def test_by_hand(self):
        self.assertEqual(common(12, 18), 6)
        self.assertEqual(common(18, 12), 6)
        self.assertEqual(common(-12, 18), 6)
        self.assertEqual(common(12, -18), 6)
        self.assertEqual(common(7, 9), 1)
        self.assertEqual(common(0, 5), 5)
        self.assertEqual(common(-5, 0), 5)
        self.assertEqual(common(0, 0), 0)

    def test_by_trying_each_divisor(self):
        for one in range(-20, 21):
            for other in range(1, 21):
                most = max(by for by in range(1, 21) if one % by == 0 == other % by)
                self.assertEqual(common(one, other), most)


class ShortenedTest(unittest.TestCase):
    def test_tops_below_nought_nought_and_above(self):
        self.assertEqual(shortened(-6, 4), (-3, 2))
        self.assertEqual(shortened(0, 4), (0, 1))
        self.assertEqual(shortened(6, 4), (3, 2))

    def test_what_is_short_already(self):
        for fraction in ((-7, 1), (0, 1), (1, 1), (5, 1), (3, 7), (-3, 7)):
            self.assertEqual(shortened(*fraction), fraction)

    def test_bottoms_that_come_to_one(self):
        self.assertEqual(shortened(12, 4), (3, 1))
        self.assertEqual(shortened(-12, 12), (-1, 1))

    def test_bottoms_below_nought(self):
        self.assertEqual(shortened(6, -4), (-3, 2))
        self.assertEqual(shortened(-6, -4), (3, 2))
        self.assertEqual(shortened(0, -4), (0, 1))

    def test_against_another_reckoning(self):
        for top in NUMBERS:
            for bottom in NUMBERS:
                if bottom:
                    told = shortened(top, bottom)
                    self.assertEqual(told, Fraction(top, bottom).as_integer_ratio())
                    self.assertIsInstance(told, tuple)


class TotalTest(unittest.TestCase):
    def test_of_none_and_one(self):
        self.assertEqual(total([]), (0, 1))
        self.assertEqual(total([(-3, 4)]), (-3, 4))

    def test_shortened_at_the_end(self):
        self.assertEqual(total([(1, 2), (1, 2)]), (1, 1))
        self.assertEqual(total([(1, 6), (1, 3)]), (1, 2))
        self.assertEqual(total([(1, 6), (-1, 6)]), (0, 1))
        self.assertEqual(total([(1, 3), (-5, 6), (2, 1)]), (3, 2))

    def test_against_another_reckoning(self):
        for first in range(-4, 5):
            for second in range(-4, 5):
                some = [shortened(first, 6), shortened(second, 10), (1, 7)]
                before = list(some)
                told = sum((Fraction(*one) for one in some), Fraction(0))
                self.assertEqual(total(some), told.as_integer_ratio())
                self.assertEqual(some, before)


if __name__ == "__main__":
    unittest.main()
