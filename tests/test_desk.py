import random
import unittest

from heightrings.areas import region_areas
from heightrings.bands import nodes_at, word_of
from heightrings.desk import Desk
from heightrings.errors import HeightError, NoDeed, NoPoint, NoRow, NoTable, NoText, TooSteep
from heightrings.lines import lines
from heightrings.maps import pins_of, web_of
from heightrings.peaks import peaks
from heightrings.regions import regions
from heightrings.tables import mirrored, turned
from heightrings.texts import show_line, show_table
from heightrings.thin import thinned
from heightrings.within import lies_in
from tests.samples import BOUND, DEEP, TWO_IN_ONE, Case, cuts_of, mixed_tables
from tests.test_texts import NO_NUMBERS

FAR = 10 ** 10
HILL = [[0, 0, 0], [0, 3, 0], [0, 0, 0]]
TWO = [[2, 0, 3], [2, 0, 3]]

# Each kind of line that a desk knows, well written.
KNOWN = [
    "table", "put 1 0 -4", "raise 2", "turn", "mirror", "undo", "lines 0", "in 0", "regions 0", "side 1 1 0", "area 0",
    "node 0", "peaks", "thin 2 0", "thin 2 0 1", "thin 0 2 1 0",
]


def desk_of(rows):
    return Desk(show_table(rows))


class DeskCase(Case):
    def assert_says(self, desk, line, expected):
        told = desk.say(line)
        self.assertIsInstance(told, str)
        self.assertEqual(told, expected, line)

    def assert_refuses(self, desk, line, refusal, at=None):
        """The line is refused, and the table stays."""
        before = desk.say("table")
        with self.assertRaises(refusal, msg=repr(line)) as caught:
            desk.say(line)
        self.assertIs(caught.exception.__class__, refusal)
        self.assertIsInstance(caught.exception, HeightError)
        if at is not None:
            self.assertEqual(caught.exception.at, at)
        self.assertEqual(desk.say("table"), before)


class MadeTest(DeskCase):
    def test_of_a_text(self):
        self.assert_says(Desk("1 2\n3 4"), "table", "1 2; 3 4")
        self.assert_says(Desk("-1 0 10\n3 4 5\n6 7 -1000000000"), "table", "-1 0 10; 3 4 5; 6 7 -1000000000")

    def test_no_text(self):
        for text, line in (("", 0), ("1 2\n3 4\n", 2), ("1 2; 3 4", 0), ("1 2\n03 4", 1)):
            with self.assertRaises(NoText) as caught:
                Desk(text)
            self.assertEqual(caught.exception.line, line)

    def test_no_table(self):
        for text, at in (("1 2", -1), ("1 2\n3", 1), ("1 2\n3 1000000001", 1), ("1\n2", 0)):
            with self.assertRaises(NoTable) as caught:
                Desk(text)
            self.assertEqual(caught.exception.at, at)


class DeedTest(DeskCase):
    def test_put(self):
        desk = desk_of(HILL)
        self.assert_says(desk, "put 2 0 7", "ok")
        self.assert_says(desk, "table", "0 0 7; 0 3 0; 0 0 0")
        self.assert_says(desk, "put 0 2 -1000000000", "ok")
        self.assert_says(desk, "put 1 1 1000000000", "ok")
        self.assert_says(desk, "table", "0 0 7; 0 1000000000 0; -1000000000 0 0")

    def test_put_beyond_the_table(self):
        desk = Desk("1 2 3\n4 5 6")
        for x, y in ((3, 0), (0, 2), (-1, 0), (0, -1), (2, 2), (3, 1), (99999999999, 0), (0, -99999999999)):
            self.assert_refuses(desk, f"put {x} {y} 5", NoPoint)
            # The point goes ahead of the height.
            self.assert_refuses(desk, f"put {x} {y} 1000000001", NoPoint)
        self.assert_says(desk, "put 2 1 0", "ok")

    def test_put_beyond_the_bounds(self):
        desk = Desk("1 2 3\n4 5 6")
        for height in (BOUND + 1, -BOUND - 1, 99999999999, -99999999999):
            self.assert_refuses(desk, f"put 0 0 {height}", NoTable, 0)
            self.assert_refuses(desk, f"put 2 1 {height}", NoTable, 1)
        self.assert_refuses(desk, "undo", NoDeed)

    def test_raise(self):
        desk = Desk("1 2\n3 4")
        self.assert_says(desk, "raise 5", "ok")
        self.assert_says(desk, "table", "6 7; 8 9")
        self.assert_says(desk, "raise -9", "ok")
        self.assert_says(desk, "table", "-3 -2; -1 0")
        self.assert_says(desk, "raise 0", "ok")
        self.assert_says(desk, "table", "-3 -2; -1 0")
        self.assert_says(desk, "raise 1000000000", "ok")
        self.assert_says(desk, "table", "999999997 999999998; 999999999 1000000000")
        self.assert_says(desk, "raise -1999999997", "ok")
        self.assert_says(desk, "table", "-1000000000 -999999999; -999999998 -999999997")

    def test_raise_beyond_the_bounds(self):
        desk = Desk("0 1\n2 3")
        self.assert_refuses(desk, "raise 999999998", NoTable, 1)
        self.assert_refuses(desk, "raise 1000000000", NoTable, 0)
        self.assert_refuses(desk, "raise 10000000000", NoTable, 0)
        self.assert_refuses(desk, "raise -10000000000", NoTable, 0)
        self.assert_refuses(Desk("3 2\n1 0"), "raise -1000000001", NoTable, 1)
        self.assert_refuses(desk, "undo", NoDeed)
        self.assert_says(desk, "raise 999999997", "ok")

    def test_turn_and_mirror(self):
        desk = Desk("1 2 3\n4 5 6")
        self.assert_says(desk, "turn", "ok")
        self.assert_says(desk, "table", "4 1; 5 2; 6 3")
        self.assert_says(desk, "mirror", "ok")
        self.assert_says(desk, "table", "1 4; 2 5; 3 6")
        # The table is another way round: so are its points.
        self.assert_refuses(desk, "put 2 1 9", NoPoint)
        self.assert_says(desk, "put 1 2 9", "ok")
        self.assert_says(desk, "table", "1 4; 2 5; 3 9")

    def test_undo(self):
        desk = Desk("1 2\n3 4")
        self.assert_refuses(desk, "undo", NoDeed)
        for line in ("put 0 0 9", "raise 1", "turn", "mirror"):
            self.assert_says(desk, line, "ok")
            self.assert_says(desk, "undo", "ok")
            self.assert_says(desk, "table", "1 2; 3 4")
            self.assert_refuses(desk, "undo", NoDeed)

    def test_undo_of_all_deeds(self):
        desk = Desk("1 2\n3 4")
        seen = []
        for line in ("turn", "put 1 1 8", "raise -3", "mirror", "put 0 0 0", "put 0 0 0", "turn"):
            seen.append(desk.say("table"))
            self.assert_says(desk, line, "ok")
        for before in reversed(seen):
            self.assert_says(desk, "undo", "ok")
            self.assert_says(desk, "table", before)
        self.assert_refuses(desk, "undo", NoDeed)
        self.assert_refuses(desk, "undo", NoDeed)

    def test_a_deed_that_changes_no_height_is_undone_too(self):
        desk = Desk("1 1\n1 1")
        self.assert_says(desk, "put 0 0 5", "ok")
        for line in ("put 0 0 5", "raise 0"):
            self.assert_says(desk, line, "ok")
            self.assert_says(desk, "undo", "ok")
            self.assert_says(desk, "table", "5 1; 1 1")
        self.assert_says(desk, "undo", "ok")
        self.assert_refuses(desk, "undo", NoDeed)

    def test_undo_behind_a_refused_deed(self):
        desk = Desk("1 2\n3 4")
        self.assert_says(desk, "put 0 0 7", "ok")
        self.assert_refuses(desk, "put 5 5 5", NoPoint)
        self.assert_refuses(desk, "put 0 0 1000000001", NoTable, 0)
        self.assert_refuses(desk, "raise 1000000000", NoTable, 0)
        self.assert_refuses(desk, "turn 1", NoRow)
        self.assert_says(desk, "undo", "ok")
        self.assert_says(desk, "table", "1 2; 3 4")
        self.assert_refuses(desk, "undo", NoDeed)

    def test_undo_does_not_undo_an_undo(self):
        desk = Desk("1 2\n3 4")
        self.assert_says(desk, "raise 1", "ok")
        self.assert_says(desk, "raise 10", "ok")
        self.assert_says(desk, "undo", "ok")
        self.assert_says(desk, "undo", "ok")
        self.assert_says(desk, "table", "1 2; 3 4")
        self.assert_says(desk, "raise 1", "ok")
        self.assert_says(desk, "undo", "ok")
        self.assert_refuses(desk, "undo", NoDeed)

    def test_deeds_in_many_orders(self):
        source = random.Random(81)
        for first in mixed_tables(60, 82, (0, 3, -2, BOUND, -BOUND)):
            desk = desk_of(first)
            past, rows = [], first
            for _ in range(30):
                word = source.choice(("put", "raise", "turn", "mirror", "undo"))
                x, y = source.randint(-1, 7), source.randint(-1, 7)
                height = source.choice((0, 1, -5, BOUND, BOUND + 1, -BOUND - 1))
                line = {"put": f"put {x} {y} {height}", "raise": f"raise {height}"}.get(word, word)
                refusal, after = None, None
                if word == "undo":
                    refusal = None if past else NoDeed
                elif word == "put":
                    if not (0 <= y < len(rows) and 0 <= x < len(rows[0])):
                        refusal = NoPoint
                    elif abs(height) > BOUND:
                        refusal = NoTable
                    else:
                        after = [list(row) for row in rows]
                        after[y][x] = height
                elif word == "raise":
                    after = [[old + height for old in row] for row in rows]
                    if any(abs(new) > BOUND for row in after for new in row):
                        refusal = NoTable
                else:
                    after = turned(rows) if word == "turn" else mirrored(rows)
                if refusal is not None:
                    self.assert_refuses(desk, line, refusal)
                    continue
                self.assert_says(desk, line, "ok")
                if word == "undo":
                    rows = past.pop()
                else:
                    past.append(rows)
                    rows = after
                self.assertEqual(desk.say("table"), "; ".join(show_table(rows).split("\n")))

    def test_two_desks_side_by_side(self):
        text = "1 2\n3 4"
        one, other = Desk(text), Desk(text)
        self.assert_says(one, "put 0 0 9", "ok")
        self.assert_says(other, "table", "1 2; 3 4")
        self.assert_refuses(other, "undo", NoDeed)
        self.assert_says(other, "turn", "ok")
        self.assert_says(one, "table", "9 2; 3 4")
        self.assert_says(one, "undo", "ok")
        self.assert_says(one, "table", "1 2; 3 4")
        self.assert_says(other, "table", "3 1; 4 2")
        self.assert_says(Desk(text), "table", "1 2; 3 4")


class AnswerTest(DeskCase):
    def test_lines(self):
        self.assert_says(desk_of(HILL), "lines 0", "ring 0,1,0 1,1,1 1,1,0 1,0,1")
        self.assert_says(desk_of(TWO), "lines 0", "run 0,1,0 0,0,0; run 1,0,0 1,1,0")
        self.assert_says(desk_of(TWO), "lines 2", "run 1,0,0 1,1,0")
        for cut in (3, -1, FAR, -FAR):
            self.assert_says(desk_of(HILL), f"lines {cut}", "none")

    def test_in(self):
        self.assert_says(desk_of(HILL), "in 0", "-")
        self.assert_says(desk_of(TWO), "in 0", "- -")
        self.assert_says(desk_of(HILL), "in 3", "none")
        self.assert_says(desk_of(DEEP), "in 0", "- 0 0,1")
        self.assert_says(desk_of(TWO_IN_ONE), "in 0", "- 0 0")

    def test_regions(self):
        self.assert_says(desk_of(HILL), "regions 0", "1 1")
        self.assert_says(desk_of(TWO), "regions 0", "2 1")
        self.assert_says(desk_of([[0, 9, 0], [0, 9, 0]]), "regions 4", "1 2")
        self.assert_says(desk_of(HILL), "regions 3", "0 1")
        self.assert_says(desk_of(HILL), "regions -1", "1 0")
        self.assert_says(desk_of(HILL), f"regions {FAR}", "0 1")

    def test_side(self):
        desk = desk_of(HILL)
        self.assert_says(desk, "side 1 1 0", "high")
        self.assert_says(desk, "side 1 1 2", "high")
        self.assert_says(desk, "side 1 1 3", "low")
        self.assert_says(desk, "side 0 0 0", "low")
        self.assert_says(desk, "side 2 1 -1", "high")
        self.assert_says(desk, f"side 2 1 {FAR}", "low")
        self.assert_says(Desk("1 2 3\n4 5 6"), "side 2 0 2", "high")
        self.assert_says(Desk("1 2 3\n4 5 6"), "side 0 1 4", "low")

    def test_side_beyond_the_table(self):
        desk = Desk("1 2 3\n4 5 6")
        for x, y in ((3, 0), (0, 2), (-1, 0), (0, -1), (2, 2), (99999999999, 1), (1, -99999999999)):
            self.assert_refuses(desk, f"side {x} {y} 0", NoPoint)

    def test_area(self):
        self.assert_says(desk_of([[0, 0, 0], [0, 1, 0], [0, 0, 0]]), "area 0", "7/2 1/2")
        self.assert_says(desk_of(TWO), "area 3", "2")
        self.assert_says(desk_of([[0, 1], [0, 1]]), "area 0", "1/2 1/2")
        self.assert_says(desk_of([[0, 1, 1, 0], [0, 1, 1, 0]]), "area 0", "1/2 2 1/2")
        self.assert_says(desk_of([[0] * 7] * 7), "area 0", "36")

    def test_area_with_many_figures(self):
        source = random.Random(83)
        rows = [[source.randint(-BOUND, BOUND) for _ in range(7)] for _ in range(7)]
        told = desk_of(rows).say("area 0").split(" ")
        self.assertGreater(max(map(len, told)), 100)
        areas = [tuple(map(int, word.split("/"))) for word in told]
        self.assertEqual(areas, region_areas(rows, 0))

    def test_node(self):
        desk = desk_of(TWO)
        self.assert_says(desk, "node 0", "birth")
        self.assert_says(desk, "node 1", "on on")
        self.assert_says(desk, "node 2", "end on")
        self.assert_says(desk, "node 3", "end")
        self.assert_says(Desk("4 4\n4 4"), "node 4", "all")

    def test_node_beyond_the_span(self):
        for height in (-1, 4, -FAR, FAR):
            self.assert_says(desk_of(TWO), f"node {height}", "none")

    def test_node_of_a_steep_table(self):
        self.assert_says(Desk("-1000000000 1000000000\n0 0"), "node 5", "on")

    def test_peaks(self):
        self.assert_says(desk_of(HILL), "peaks", "3 -")
        self.assert_says(desk_of(TWO), "peaks", "2 -1; 3 -")
        self.assert_says(Desk("4 4\n4 4"), "peaks", "4 -")
        self.assert_says(Desk("-4 -6 -3\n-4 -6 -3"), "peaks", "-4 -7; -3 -")

    def test_peaks_of_a_table_too_steep(self):
        desk = Desk("0 9\n0 0")
        self.assert_says(desk, "peaks", "9 -")
        self.assert_says(desk, "put 0 0 -1", "ok")
        self.assert_refuses(desk, "peaks", TooSteep)
        self.assert_says(desk, "undo", "ok")
        self.assert_says(desk, "peaks", "9 -")
        self.assert_refuses(Desk("-1000000000 1000000000\n0 0"), "peaks", TooSteep)

    def test_thin(self):
        desk = desk_of(HILL)
        # Rings round a pin: of four points none may go.
        self.assert_says(desk, "thin 5 0", "4 4")
        self.assert_says(desk, "thin 5 2 0", "8 8")
        self.assert_says(desk, "thin 1000000 2 1 0", "12 12")
        self.assert_says(desk, "thin 0 7", "0 0")
        # A straight run through two cells keeps its ends; its places are whole 2 off from pins.
        straight = Desk("0 1\n0 1\n0 1")
        self.assert_says(straight, "thin 0 0", "3 2")
        self.assert_says(straight, "thin 0 0 1 -1", "3 2")
        bent = Desk("0 2\n0 3\n0 2")
        # The scale is 12: the run goes 3, 2, 3 from the left.
        self.assert_says(bent, "thin 0 0", "3 3")
        self.assert_says(bent, "thin 1 0", "3 2")
        # The scale is 12 and the cut 1 goes 9, 6, 9.
        self.assert_says(bent, "thin 2 1", "3 3")
        self.assert_says(bent, "thin 3 1", "3 2")
        self.assert_says(bent, "thin 1 1 0", "6 5")
        self.assert_says(bent, "thin 3 0 1", "6 4")

    def test_thin_at_the_bounds_of_the_cuts(self):
        self.assert_says(desk_of(HILL), f"thin 0 {FAR} {-FAR} 0", "4 4")

    def test_against_the_functions(self):
        for rows in list(mixed_tables(25, 84, range(-3, 5))) + [DEEP, TWO_IN_ONE]:
            rows = [row[:5] for row in rows]
            desk = desk_of(rows)
            for cut in cuts_of(rows):
                some = lines(rows, cut)
                self.assert_says(desk, f"lines {cut}", "; ".join(map(show_line, some)) if some else "none")
                told = [",".join(map(str, within)) if within else "-" for within in lies_in(rows, cut)]
                self.assert_says(desk, f"in {cut}", " ".join(told) if told else "none")
                words = [word for word, _ in regions(rows, cut)]
                high = words.count("high")
                self.assert_says(desk, f"regions {cut}", f"{high} {len(words) - high}")
                areas = [f"{top}/{bottom}" if bottom > 1 else str(top) for top, bottom in region_areas(rows, cut)]
                self.assert_says(desk, f"area {cut}", " ".join(areas))
                nodes = [word_of(node) for node in nodes_at(rows, cut)]
                self.assert_says(desk, f"node {cut}", " ".join(nodes) if nodes else "none")
                for y, row in enumerate(rows):
                    for x, height in enumerate(row):
                        self.assert_says(desk, f"side {x} {y} {cut}", "high" if height > cut else "low")
            told = [f"{height} {'-' if over is None else over}" for _, height, over in peaks(rows)]
            self.assert_says(desk, "peaks", "; ".join(told))

    def test_thin_against_the_functions(self):
        source = random.Random(85)
        for rows in mixed_tables(60, 86, range(-3, 5)):
            rows = [row[:3] for row in rows[:3]]
            desk = desk_of(rows)
            for bound in (0, 1, 7, 40, 10 ** 6):
                cuts = source.sample(range(-4, 6), source.randint(1, 3))
                web = web_of(rows, cuts)
                counts = [sum(len(path) for _, path in some) for some in (web, thinned(web, bound, pins_of(rows)))]
                self.assert_says(desk, f"thin {bound} {' '.join(map(str, cuts))}", f"{counts[0]} {counts[1]}")

    def test_at_the_table_as_it_is_then(self):
        desk = desk_of(HILL)
        self.assert_says(desk, "put 1 1 0", "ok")
        self.assert_says(desk, "lines 0", "none")
        self.assert_says(desk, "peaks", "0 -")
        self.assert_says(desk, "area 0", "4")
        self.assert_says(desk, "undo", "ok")
        self.assert_says(desk, "lines 0", "ring 0,1,0 1,1,1 1,1,0 1,0,1")
        self.assert_says(desk, "raise 10", "ok")
        self.assert_says(desk, "lines 0", "none")
        self.assert_says(desk, "lines 10", "ring 0,1,0 1,1,1 1,1,0 1,0,1")
        self.assert_says(desk, "thin 0 10", "4 4")
        self.assert_says(desk, "node 13", "end")
        self.assert_says(desk, "side 1 1 12", "high")
        wide = desk_of(TWO)
        self.assert_says(wide, "turn", "ok")
        self.assert_says(wide, "lines 2", "run 1,1,1 0,1,1")
        self.assert_says(wide, "side 0 2 2", "high")
        self.assert_refuses(wide, "side 2 0 2", NoPoint)

    def test_asking_is_no_deed(self):
        desk = desk_of(TWO)
        asked = [line for line in KNOWN if line.split(" ")[0] not in ("put", "raise", "turn", "mirror", "undo")]
        told = [desk.say(line) for line in asked]
        self.assert_refuses(desk, "undo", NoDeed)
        self.assertEqual([desk.say(line) for line in asked], told)
        for line in KNOWN:
            if line != "undo":
                desk.say(line)
        for _ in range(4):
            self.assert_says(desk, "undo", "ok")
        self.assert_refuses(desk, "undo", NoDeed)
        self.assertEqual([desk.say(line) for line in asked], told)


class NoRowTest(DeskCase):
    def setUp(self):
        self.desk = Desk("1 2 3\n0 5 6\n2 2 0")

    def assert_no_row(self, line):
        self.assert_refuses(self.desk, line, NoRow)
        self.assert_refuses(self.desk, "undo", NoDeed)

    def test_known_ones_are_known(self):
        for line in KNOWN:
            desk = Desk("1 2 3\n0 5 6\n2 2 0")
            desk.say("turn")
            self.assertIsInstance(desk.say(line), str)

    def test_no_text(self):
        for thing in (None, 5, 0, True, False, b"table", ["table"], ("table",), {"table": 1}, [], {}, object(), "x"):
            self.assert_no_row(thing)

    def test_no_word_of_these(self):
        for line in ("", " ", "tables", "Table", "TABLE", "tabl", "line 0", "ring", "run 0", "redo", "quit", "1", "0 0",
                     "-", "none", "ok", "C", "lines C", "areas 0", "nodes 0", "peak", "region 0", "sides 1 1 0", "thins 0 0",
                     "turned", "undone", "raised 1", "get", "keys", "high", "in", "in 0 0", "table;", "table; turn"):
            self.assert_no_row(line)

    def test_a_word_left_out_told_twice_or_one_more(self):
        for line in KNOWN:
            words = line.split(" ")
            for at in range(len(words)):
                # With a cut less, or the bound as one more, thin is one of these lines still.
                if len(words) > 1 and not (words[0] == "thin" and at > 0 and len(words) > 3):
                    self.assert_no_row(" ".join(words[:at] + words[at + 1:]))
                if not (words[0] == "thin" and at == 1 and len(words) < 5):
                    self.assert_no_row(" ".join(words[:at] + [words[at]] + words[at:]))
            self.assert_no_row(line + " x")
            self.assert_no_row("x " + line)
            self.assert_no_row(line + " " + line)
            if words[0] != "thin" or len(words) > 4:
                self.assert_no_row(line + " 9")

    def test_a_blank_more_or_less(self):
        for line in KNOWN:
            self.assert_no_row(" " + line)
            self.assert_no_row(line + " ")
            if " " in line:
                self.assert_no_row(line.replace(" ", "  ", 1))
                self.assert_no_row(line.replace(" ", "\t", 1))
                self.assert_no_row(line.replace(" ", "", 1))
                self.assert_no_row("  ".join(line.rsplit(" ", 1)))

    def test_another_sign(self):
        for line in KNOWN:
            for sign in ("\n", "\t", ".", ";", ",", "\r", "\x00", "~", "x", "\u00a0"):
                self.assert_no_row(line + sign)
                self.assert_no_row(sign + line)
                self.assert_no_row(line[:1] + sign + line[1:])
            self.assert_no_row(line.upper())
            self.assert_no_row(line.capitalize())
            self.assert_no_row(line[::-1])

    def test_a_number_otherwise_written(self):
        for line in KNOWN:
            words = line.split(" ")
            for at in range(1, len(words)):
                for number in NO_NUMBERS:
                    self.assert_no_row(" ".join(words[:at] + [number] + words[at + 1:]))

    def test_cuts_and_heights_at_their_bounds_and_beyond(self):
        for word in ("lines", "in", "regions", "area", "node", "side 1 1", "thin 0", "thin 0 1", "thin 0 1 2"):
            for number in (FAR, -FAR):
                self.assertIsInstance(self.desk.say(f"{word} {number}"), str)
            for number in (FAR + 1, -FAR - 1, 99999999999, -99999999999, 10 ** 30):
                self.assert_no_row(f"{word} {number}")

    def test_raises_at_their_bounds_and_beyond(self):
        for number in (FAR, -FAR):
            self.assert_refuses(self.desk, f"raise {number}", NoTable, 0)
        for number in (FAR + 1, -FAR - 1, 99999999999, -99999999999, 10 ** 30):
            self.assert_no_row(f"raise {number}")

    def test_bounds_at_their_bounds_and_beyond(self):
        for bound in (0, 10 ** 6):
            self.assertIsInstance(self.desk.say(f"thin {bound} 0"), str)
        for bound in (-1, 10 ** 6 + 1, FAR, -FAR, 10 ** 12):
            for cuts in ("0", "0 1", "2 1 0"):
                self.assert_no_row(f"thin {bound} {cuts}")

    def test_thin_with_other_cuts(self):
        for cuts in ("", " 0 0", " 1 0 1", " 0 1 1", " 1 1 0", " 2 2 2", " 0 1 2 3", " 0 1 2 3 4", " -1 -1"):
            self.assert_no_row("thin 1" + cuts)
        # The bound is no cut.
        self.assertIsInstance(self.desk.say("thin 1 1"), str)
        self.assertIsInstance(self.desk.say("thin 1 2 1"), str)
        self.assertIsInstance(self.desk.say("thin 0 1 2 0"), str)
        self.assertIsInstance(self.desk.say("thin 1 -1 1"), str)

    def test_ahead_of_all_else(self):
        # Each of these would be refused otherwise, too.
        for line in ("put 9 9 1_0", "put 9 9", "put 0 0 123456789012", "side 9 9 10000000001", "side 9 9",
                     "raise 10000000001", "undo 1", "undo ", "side 9 9 0 0"):
            self.assert_no_row(line)
        steep = Desk("0 99\n0 0")
        self.assert_refuses(steep, "peaks 0", NoRow)
        self.assert_refuses(steep, "peaks", TooSteep)

    def test_nothing_is_changed_by_it(self):
        self.desk.say("put 0 0 7")
        before = self.desk.say("table")
        for line in ("put 0 0", "turn 1", "mirror ", " undo", "raise", None, 3):
            self.assert_refuses(self.desk, line, NoRow)
        self.assert_says(self.desk, "table", before)
        self.assert_says(self.desk, "undo", "ok")
        self.assert_says(self.desk, "table", "1 2 3; 0 5 6; 2 2 0")
        self.assert_refuses(self.desk, "undo", NoDeed)

    def test_numbers_of_eleven_figures_are_numbers(self):
        self.assert_refuses(self.desk, "put 99999999999 0 1", NoPoint)
        self.assert_refuses(self.desk, "put 0 0 99999999999", NoTable, 0)
        self.assert_refuses(self.desk, "put 0 1 -99999999999", NoTable, 1)
        self.assert_refuses(self.desk, "side -99999999999 99999999999 0", NoPoint)


if __name__ == "__main__":
    unittest.main()
