import copy
import unittest

from heightrings.errors import NoTable
from heightrings.tables import ask_table, mirrored, raised, span, turned
from tests.samples import BOUND, Case

SIZES = [(wide, tall) for wide in range(2, 8) for tall in range(2, 8)]
BAD_ROWS = [
    [], [1], [1, 2], [1, 2, 3, 4], list(range(7)), list(range(8)), list(range(30)),
    [BOUND + 1, 0, 0], [0, 0, BOUND + 1], [-BOUND - 1, 0, 0], [0, -BOUND - 1, 0],
    [0, 10 ** 29, 0], [-(10 ** 29), 0, 0], [0, 0, 10 ** 5000],
]


def counted(wide, tall):
    """A table in which no two heights are alike."""
    return [[10 * y + x for x in range(wide)] for y in range(tall)]


class TablesCase(Case):
    def assert_refused(self, rows, at, ask=ask_table):
        with self.assertRaises(NoTable) as caught:
            ask(rows)
        self.assertEqual(caught.exception.at, at)


class AskTableTest(TablesCase):
    def test_all_sizes(self):
        for wide, tall in SIZES:
            self.assertIs(ask_table(counted(wide, tall)), True)

    def test_both_bounds(self):
        self.assertIs(ask_table([[BOUND, -BOUND], [-BOUND, BOUND]]), True)
        self.assertIs(ask_table([[BOUND] * 7] * 7), True)
        self.assertIs(ask_table([[-BOUND] * 2] * 2), True)

    def test_too_few_or_too_many_rows(self):
        for many in (0, 1, 8, 9, 100):
            self.assert_refused([[1, 2, 3]] * many, -1)
            self.assert_refused([[]] * many, -1)
            self.assert_refused([[BOUND + 1]] * many, -1)

    def test_first_bad_row_at_each_place(self):
        for tall in range(2, 8):
            for at in range(1, tall):
                for bad in BAD_ROWS:
                    rows = counted(3, tall)
                    rows[at] = bad
                    self.assert_refused(rows, at)

    def test_bad_row_0(self):
        for bad in ([], [1], list(range(8)), list(range(40)), [0, 0, BOUND + 1], [0, -BOUND - 1, 0], [10 ** 29, 1, 1]):
            self.assert_refused([bad, [1, 2, 3]], 0)
            self.assert_refused([bad] * 7, 0)

    def test_row_0_tells_how_many(self):
        self.assert_refused([[1, 2], [1, 2, 3], [1, 2, 3]], 1)
        self.assert_refused([[1, 2, 3, 4], [1, 2, 3, 4], [1, 2, 3], [1, 2, 3]], 2)

    def test_several_bad_rows(self):
        self.assert_refused([[1, 2], [1, 2], [1], [1, BOUND + 1], []], 2)
        self.assert_refused([[1, 2], [1, -BOUND - 1], [1]], 1)
        self.assert_refused([[1], [1], [1, 2]], 0)

    def test_what_is_handed_in_stays(self):
        for rows in (counted(4, 3), [[1, 2], [3]], []):
            before = copy.deepcopy(rows)
            try:
                ask_table(rows)
            except NoTable:
                pass
            self.assertEqual(rows, before)


class TurnedTest(TablesCase):
    def test_wider_than_high(self):
        self.assertEqual(turned([[1, 2, 3], [4, 5, 6]]), [[4, 1], [5, 2], [6, 3]])

    def test_higher_than_wide(self):
        self.assertEqual(turned([[1, 2], [3, 4], [5, 6]]), [[5, 3, 1], [6, 4, 2]])

    def test_each_height_at_its_place(self):
        for wide, tall in SIZES:
            rows = counted(wide, tall)
            told = turned(rows)
            self.assertEqual((len(told[0]), len(told)), (tall, wide))
            for x in range(wide):
                for y in range(tall):
                    self.assertEqual(told[x][tall - 1 - y], rows[y][x])

    def test_four_turns_are_the_table(self):
        for wide, tall in SIZES:
            rows = counted(wide, tall)
            self.assertEqual(turned(turned(turned(turned(rows)))), rows)

    def test_refuses_and_leaves_alone(self):
        self.assert_refuses_no_table(turned)
        self.assert_asks_cleanly(turned, counted(4, 3))


class MirroredTest(TablesCase):
    def test_wider_than_high(self):
        self.assertEqual(mirrored([[1, 2, 3], [4, 5, 6]]), [[3, 2, 1], [6, 5, 4]])

    def test_higher_than_wide(self):
        self.assertEqual(mirrored([[1, 2], [3, 4], [5, 6]]), [[2, 1], [4, 3], [6, 5]])

    def test_two_mirrors_are_the_table(self):
        for wide, tall in SIZES:
            rows = counted(wide, tall)
            self.assertEqual(mirrored(mirrored(rows)), rows)

    def test_refuses_and_leaves_alone(self):
        self.assert_refuses_no_table(mirrored)
        self.assert_asks_cleanly(mirrored, counted(4, 3))

    def test_like_rows_are_told_as_lists_of_their_own(self):
        row = [1, 2, 3]
        for told in (mirrored([row, row]), turned([row, row]), raised([row, row], 0)):
            told[0][0] = 99
            self.assertNotEqual(told[1][0], 99)
        self.assertEqual(row, [1, 2, 3])


class RaisedTest(TablesCase):
    def test_by_numbers_below_above_and_0(self):
        self.assertEqual(raised([[1, 2, 3], [4, 5, 6]], 10), [[11, 12, 13], [14, 15, 16]])
        self.assertEqual(raised([[1, 2], [3, 4], [5, 6]], -3), [[-2, -1], [0, 1], [2, 3]])
        self.assertEqual(raised([[1, 2], [3, 4]], 0), [[1, 2], [3, 4]])

    def test_by_0_is_a_new_table(self):
        rows = [[1, 2], [3, 4]]
        told = raised(rows, 0)
        told[0][0] = 9
        told.pop()
        self.assertEqual(rows, [[1, 2], [3, 4]])

    def test_to_the_very_bound(self):
        self.assertEqual(raised([[0, 1], [2, 3]], BOUND - 3)[1], [BOUND - 1, BOUND])
        self.assertEqual(raised([[0, 1], [2, 3]], -BOUND)[0], [-BOUND, 1 - BOUND])
        self.assertEqual(raised([[-BOUND] * 2] * 2, 2 * BOUND), [[BOUND] * 2] * 2)

    def test_beyond_the_bound_tells_the_first_such_row(self):
        rows = [[0, 1], [3, 0], [2, 3], [-5, 4]]
        for by, at in ((BOUND - 3, 3), (BOUND - 2, 1), (BOUND, 0), (10 ** 29, 0), (-BOUND, 3), (-BOUND - 1, 0)):
            with self.subTest(by=by), self.assertRaises(NoTable) as caught:
                raised(rows, by)
            self.assertEqual(caught.exception.at, at)
        self.assertEqual(rows, [[0, 1], [3, 0], [2, 3], [-5, 4]])

    def test_very_far(self):
        self.assert_refused([[0, 0], [0, 0]], 0, lambda rows: raised(rows, 10 ** 5000))
        self.assert_refused([[0, 0], [0, 0]], 0, lambda rows: raised(rows, -(10 ** 5000)))

    def test_what_would_only_become_a_table_is_none(self):
        self.assert_refused([[0, 0], [0, BOUND + 1]], 1, lambda rows: raised(rows, -1))

    def test_the_table_handed_in_is_looked_at_first(self):
        self.assert_refused([[BOUND, 0], [0]], 1, lambda rows: raised(rows, 1))

    def test_refuses_and_leaves_alone(self):
        self.assert_refuses_no_table(lambda rows: raised(rows, 0))
        self.assert_refuses_no_table(lambda rows: raised(rows, -7))
        self.assert_asks_cleanly(lambda rows: raised(rows, 5), counted(4, 3))


class SpanTest(TablesCase):
    def test_like_heights(self):
        self.assertEqual(span([[4, 4], [4, 4], [4, 4]]), (4, 4))

    def test_unlike_heights_wherever_they_stand(self):
        for at in range(6):
            for other in range(6):
                flat = [0] * 6
                flat[at] -= 5
                flat[other] += 7
                rows = [flat[:3], flat[3:]]
                self.assertEqual(span(rows), (min(flat), max(flat)))

    def test_both_bounds(self):
        self.assertEqual(span([[0, BOUND], [-BOUND, 0]]), (-BOUND, BOUND))

    def test_refuses_and_leaves_alone(self):
        self.assert_refuses_no_table(span)
        self.assertIsInstance(self.assert_asks_cleanly(span, counted(4, 3)), tuple)


if __name__ == "__main__":
    unittest.main()
