import copy
import random
import re
import unittest

from heightrings.errors import HeightError, NoTable, NoText
from heightrings.lines import lines
from heightrings.texts import read_table, show_line, show_table
from tests.samples import BOUND, DEEP, Case, mixed_tables, small_tables, spoil

FAR = 10 ** 30
NUMBER = "(?:0|-?[1-9][0-9]{0,10})"
LINE = re.compile(f"{NUMBER}(?: {NUMBER})*")
# What is no number, or is otherwise written.
NO_NUMBERS = [
    "", "-", "--1", "-0", "00", "01", "-01", "000", "+1", "+0", "1.0", "1,", "a", "1a", "a1", "0x1", "1e3", "1_0", "_1",
    "1-", "1-1", "(1)", "#", "~", "!", "/", ":", "123456789012", "-123456789012", "000000000001", "9" * 12, "9" * 5000,
    "1\r", "\r1", "1\t2", "\t1", "1\x0b2", "\x0c", "\u0661", "\u00b2", "\uff11", "1\u00a02", "1\u20282", "%", "1%", "None",
]


class ShowTableTest(Case):
    def test_small_ones(self):
        self.assertEqual(show_table([[1, 2], [3, 4]]), "1 2\n3 4")
        self.assertEqual(show_table([[0, -1, 10], [-10, 0, 100]]), "0 -1 10\n-10 0 100")
        self.assertEqual(show_table([[5, 5]] * 3), "5 5\n5 5\n5 5")

    def test_both_bounds(self):
        self.assertEqual(show_table([[BOUND, -BOUND], [0, 0]]), "1000000000 -1000000000\n0 0")

    def test_no_table(self):
        self.assert_refuses_no_table(show_table)
        for height in (BOUND + 1, -BOUND - 1, FAR, 10 ** 5000):
            with self.assertRaises(NoTable) as caught:
                show_table([[1, 2], [3, height]])
            self.assertEqual(caught.exception.at, 1)

    def test_nothing_handed_in_is_changed(self):
        self.assert_asks_cleanly(show_table, copy.deepcopy(DEEP))


class ShowLineTest(unittest.TestCase):
    def test_lines_of_a_table(self):
        self.assertEqual(show_line(("run", ((0, 0, 0), (0, 1, 0)))), "run 0,0,0 0,1,0")
        ring = lines([[0, 0, 0], [0, 1, 0], [0, 0, 0]], 0)[0]
        self.assertEqual(show_line(ring), "ring 0,1,0 1,1,1 1,1,0 1,0,1")

    def test_without_gates(self):
        self.assertEqual(show_line(("ring", ())), "ring")
        self.assertEqual(show_line(("run", ())), "run")

    def test_any_word(self):
        self.assertEqual(show_line(("some", ((1, 2, 3),))), "some 1,2,3")

    def test_gates_below_nought_and_far_out(self):
        self.assertEqual(show_line(("run", ((-1, -20, -3), (0, 0, 0)))), "run -1,-20,-3 0,0,0")
        self.assertEqual(show_line(("run", ((FAR, 1, 0),))), "run 1" + "0" * 30 + ",1,0")
        self.assertEqual(show_line(("run", ((-FAR, FAR - 1, 12345678901234),))),
                         "run -1" + "0" * 30 + "," + "9" * 30 + ",12345678901234")

    def test_numbers_of_any_many_figures(self):
        source = random.Random(71)
        for many in list(range(1, 40)) + [63, 64, 65, 66, 127, 128, 129, 192, 193, 700, 4300, 4301, 6000]:
            figures = source.choice("123456789") + "".join(source.choice("0001234567") for _ in range(many - 1))
            number = 0
            for figure in figures:
                number = 10 * number + int(figure)
            self.assertTrue(show_line(("ring", ((number, -number, 0),))) == f"ring {figures},-{figures},0", many)
        for many in (1, 10, 63, 64, 65, 128, 129, 4299, 4300, 5000):
            self.assertTrue(show_line(("ring", ((10 ** many, 0, 0),))) == "ring 1" + "0" * many + ",0,0", many)
            self.assertTrue(show_line(("ring", ((1 - 10 ** many, 0, 0),))) == "ring -" + "9" * many + ",0,0", many)

    def test_a_line_of_many_gates(self):
        gates = tuple((k, -k, k % 2) for k in range(3000))
        words = show_line(("run", gates)).split(" ")
        self.assertEqual(words[0], "run")
        self.assertEqual([tuple(map(int, word.split(","))) for word in words[1:]], list(gates))

    def test_told_the_same_again(self):
        line = ("run", ((0, 0, 0), (0, 1, 0)))
        self.assertEqual(show_line(line), show_line(copy.deepcopy(line)))
        self.assertEqual(line, ("run", ((0, 0, 0), (0, 1, 0))))


class ReadTableTest(Case):
    def assert_no_text(self, text, line):
        with self.assertRaises(NoText, msg=repr(text)) as caught:
            read_table(text)
        self.assertEqual(caught.exception.line, line, repr(text))
        self.assertIsInstance(caught.exception, HeightError)

    def assert_no_table(self, text, at):
        with self.assertRaises(NoTable, msg=repr(text)) as caught:
            read_table(text)
        self.assertEqual(caught.exception.at, at, repr(text))

    def test_small_ones(self):
        self.assertEqual(read_table("1 2\n3 4"), [[1, 2], [3, 4]])
        self.assertEqual(read_table("0 -1 10\n-10 0 100"), [[0, -1, 10], [-10, 0, 100]])
        self.assertEqual(read_table("1000000000 -1000000000\n0 0"), [[BOUND, -BOUND], [0, 0]])

    def test_written_and_read_back(self):
        tables = list(small_tables())[::7] + [[[BOUND, -BOUND, 0]] * 2, DEEP]
        tables += mixed_tables(40, 72, (-BOUND, BOUND, 0, -1, 1, 10, -10, 999999999, -999999999))
        tables += [[[9] * wide] * tall for wide in range(2, 8) for tall in range(2, 8)]
        for rows in tables:
            text = show_table(rows)
            self.assertEqual(read_table(text), rows)
            self.assertEqual(show_table(read_table(text)), text)

    def test_no_signs_at_all(self):
        self.assert_no_text("", 0)

    def test_line_ends(self):
        self.assert_no_text("\n", 0)
        self.assert_no_text("1 2\n3 4\n", 2)
        self.assert_no_text("1 2\n\n3 4", 1)
        self.assert_no_text("\n1 2\n3 4", 0)
        self.assert_no_text("1 2\n3 4\n\n", 2)
        self.assert_no_text("1 2\r\n3 4", 0)
        self.assert_no_text("1 2\n3 4\r", 1)
        for end in ("\x0b", "\x0c", "\x1c", "\x85", "\u2028", "\r"):
            self.assert_no_text("1 2" + end + "3 4", 0)

    def test_blanks(self):
        self.assert_no_text(" 1 2\n3 4", 0)
        self.assert_no_text("1 2 \n3 4", 0)
        self.assert_no_text("1  2\n3 4", 0)
        self.assert_no_text("1 2\n 3 4", 1)
        self.assert_no_text("1 2\n3 4 ", 1)
        self.assert_no_text("1 2\n3   4", 1)
        self.assert_no_text(" ", 0)
        self.assert_no_text("1 2\n ", 1)

    def test_numbers_otherwise_written(self):
        for word in NO_NUMBERS:
            self.assert_no_text(f"{word} 2\n3 4", 0)
            self.assert_no_text(f"1 {word}\n3 4", 0)
            self.assert_no_text(f"1 2\n3 4\n{word} 6", 2)
            self.assert_no_text(f"1 2 3\n3 {word} 4", 1)

    def test_eleven_figures_are_a_number_but_no_height(self):
        for word in ("99999999999", "-99999999999", "10000000000", "1000000001", "-1000000001"):
            self.assert_no_table(f"1 2\n3 {word}", 1)
            self.assert_no_table(f"{word} 2\n3 4", 0)

    def test_the_first_line_that_has_no_such_form(self):
        self.assert_no_text("1 2\nx 4\ny 6", 1)
        self.assert_no_text("1 x\ny 4", 0)
        self.assert_no_text("1 2\n3 4\n5 6\n7 8\n9 10\n11 12\n13 14\n15 16\n17 x", 8)

    def test_the_form_ahead_of_the_table(self):
        # Each of these is no table by an earlier line, too.
        self.assert_no_text("1\nx", 1)
        self.assert_no_text("1 99999999999\n3 -0", 1)
        self.assert_no_text("1 2\n3\n4 x", 2)
        self.assert_no_text("\n".join(["1 2"] * 9 + [""]), 9)

    def test_no_table(self):
        self.assert_no_table("1 2", -1)
        self.assert_no_table("1", -1)
        self.assert_no_table("\n".join(["1 2"] * 8), -1)
        self.assert_no_table("1\n2", 0)
        self.assert_no_table("1 2 3 4 5 6 7 8\n1 2 3 4 5 6 7 8", 0)
        self.assert_no_table("1 2\n3", 1)
        self.assert_no_table("1 2\n3 4\n5 6 7", 2)
        self.assert_no_table("1 2\n3 4\n1000000001 6", 2)

    def test_told_lists_are_the_asker_s_own(self):
        told = read_table("1 2\n3 4")
        spoil(told)
        read_table("5 6\n7 8")
        self.assertEqual(read_table("1 2\n3 4"), [[1, 2], [3, 4]])

    def test_texts_with_some_signs_changed(self):
        source = random.Random(73)
        read = refused = 0
        for rows in mixed_tables(4000, 74, (0, 1, -2, 10, -300)):
            signs = list(show_table([row[:3] for row in rows[:3]]))
            for _ in range(source.randint(0, 2)):
                at = source.randrange(len(signs))
                signs[at:at + source.randrange(2)] = source.choice(("", "0", "7", "-", " ", "\n", "x"))
            text = "".join(signs)
            wrong = [at for at, line in enumerate(text.split("\n")) if not LINE.fullmatch(line)]
            if wrong:
                refused += 1
                self.assert_no_text(text, wrong[0])
            else:
                try:
                    told = read_table(text)
                except NoTable:
                    continue
                read += 1
                self.assertEqual(show_table(told), text)
        self.assertGreater(read, 1000)
        self.assertGreater(refused, 1000)


if __name__ == "__main__":
    unittest.main()
