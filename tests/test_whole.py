"""What is promised over the whole program: its interface, its refusals, and that nothing hangs on what was asked."""

import copy
import importlib
import inspect
import random
import unittest

from heightrings import errors
from heightrings.areas import region_areas, ring_area
from heightrings.back import told_back
from heightrings.bands import nodes_at, tree, word_of
from heightrings.desk import Desk
from heightrings.gates import gates, goes, is_high, ties
from heightrings.least import least_kept
from heightrings.lines import line_at, lines
from heightrings.looker import first_wrong
from heightrings.maps import pins_of, scale_of, web_of
from heightrings.peaks import peaks
from heightrings.places import place
from heightrings.regions import region_of, regions, sides
from heightrings.tables import ask_table, mirrored, raised, span, turned
from heightrings.texts import read_table, show_line, show_table
from heightrings.thin import thinned
from heightrings.webs import meeting
from heightrings.within import crossed, holds, lies_in
from tests.samples import Case, mixed_tables, spoil

FAR = 10 ** 30

# As the document's interface tells it: each function with its arguments.
INTERFACE = {
    "tables": {"ask_table": "rows", "turned": "rows", "mirrored": "rows", "raised": "rows by", "span": "rows"},
    "gates": {"is_high": "rows cut x y", "gates": "rows cut", "ties": "rows cut x y", "goes": "rows cut gate"},
    "lines": {"lines": "rows cut", "line_at": "rows cut gate"},
    "looker": {"first_wrong": "rows cut some"},
    "regions": {"regions": "rows cut", "region_of": "rows cut x y", "sides": "rows cut"},
    "within": {"crossed": "line x y", "holds": "line x y", "lies_in": "rows cut"},
    "places": {"place": "rows cut gate"},
    "areas": {"region_areas": "rows cut", "ring_area": "rows cut line"},
    "bands": {"nodes_at": "rows height", "tree": "rows", "word_of": "node"},
    "peaks": {"peaks": "rows"},
    "webs": {"meeting": "web"},
    "maps": {"scale_of": "rows", "web_of": "rows cuts", "pins_of": "rows"},
    "thin": {"thinned": "web bound pins"},
    "least": {"least_kept": "points bound"},
    "back": {"told_back": "w h base cuts"},
    "texts": {"show_table": "rows", "show_line": "line", "read_table": "text"},
    "desk": {"Desk": "text"},
}

# Each asking that is handed a table, with other things that would be refused, too, where anything can be.
OF_A_TABLE = {
    "ask_table": ask_table,
    "turned": turned,
    "mirrored": mirrored,
    "raised": lambda rows: raised(rows, FAR),
    "span": span,
    "is_high": lambda rows: is_high(rows, 0, 99, -99),
    "gates": lambda rows: gates(rows, 0),
    "ties": lambda rows: ties(rows, 0, 99, -99),
    "goes": lambda rows: goes(rows, 0, (FAR, 0, 7)),
    "lines": lambda rows: lines(rows, 0),
    "line_at": lambda rows: line_at(rows, 0, (FAR, 0, 7)),
    "first_wrong": lambda rows: first_wrong(rows, 0, [("", ())]),
    "regions": lambda rows: regions(rows, 0),
    "region_of": lambda rows: region_of(rows, 0, 99, -99),
    "sides": lambda rows: sides(rows, 0),
    "lies_in": lambda rows: lies_in(rows, 0),
    "place": lambda rows: place(rows, 0, (FAR, 0, 7)),
    "region_areas": lambda rows: region_areas(rows, 0),
    "ring_area": lambda rows: ring_area(rows, 0, ("run", ())),
    "nodes_at": lambda rows: nodes_at(rows, 0),
    "tree": tree,
    "peaks": peaks,
    "scale_of": scale_of,
    "web_of": lambda rows: web_of(rows, [0, 0]),
    "pins_of": pins_of,
    "show_table": show_table,
}


def asked_of(rows):
    """All that may be asked of a table, as deeds without arguments, each with things of its own."""
    asks = {
        "ask_table": lambda: ask_table(rows), "turned": lambda: turned(rows), "mirrored": lambda: mirrored(rows),
        "raised": lambda: raised(rows, -3), "span": lambda: span(rows), "is_high": lambda: is_high(rows, 1, 1, 1),
        "gates": lambda: gates(rows, 1), "ties": lambda: ties(rows, 1, 0, 0), "lines": lambda: lines(rows, 1),
        "first_wrong": lambda: first_wrong(rows, 1, lines(rows, 0)), "regions": lambda: regions(rows, 1),
        "region_of": lambda: region_of(rows, 1, 1, 1), "sides": lambda: sides(rows, 1),
        "lies_in": lambda: lies_in(rows, 1), "region_areas": lambda: region_areas(rows, 1),
        "nodes_at": lambda: nodes_at(rows, 1), "tree": lambda: tree(rows), "peaks": lambda: peaks(rows),
        "word_of": lambda: [word_of(node) for node in tree(rows)], "scale_of": lambda: scale_of(rows),
        "web_of": lambda: web_of(rows, [1, 0]), "pins_of": lambda: pins_of(rows),
        "show_table": lambda: show_table(rows), "read_table": lambda: read_table(show_table(rows)),
        "meeting": lambda: meeting(web_of(rows, [1]) * 2),
        "thinned": lambda: thinned(web_of(rows, [1]), scale_of(rows), pins_of(rows)),
        "told_back": lambda: told_back(len(rows[0]), len(rows), span(rows)[0],
                                       [lines(rows, cut) for cut in range(*span(rows))]),
        "desk": lambda: [Desk(show_table(rows)).say(line) for line in ("table", "area 1", "turn", "node 2", "peaks")],
    }
    for k, line in enumerate(lines(rows, 1)):
        asks["line_at", k] = lambda line=line: line_at(rows, 1, line[1][-1])
        asks["goes", k] = lambda line=line: goes(rows, 1, line[1][0])
        asks["place", k] = lambda line=line: place(rows, 1, line[1][0])
        asks["crossed", k] = lambda line=line: [crossed(line, 1, 1), holds(line, 1, 1), show_line(line)]
        asks["least_kept", k] = lambda k=k: least_kept(list(web_of(rows, [1])[k][1]), scale_of(rows))
        if line[0] == "ring":
            asks["ring_area", k] = lambda line=line: ring_area(rows, 1, line)
    return asks


class InterfaceTest(unittest.TestCase):
    def test_each_name_is_there_with_its_arguments(self):
        for module, names in INTERFACE.items():
            drawn = importlib.import_module("heightrings." + module)
            for name, arguments in names.items():
                with self.subTest(name=name):
                    self.assertEqual(list(inspect.signature(getattr(drawn, name)).parameters), arguments.split())

    def test_a_desk_is_a_class_and_says(self):
        self.assertTrue(inspect.isclass(Desk))
        self.assertEqual(list(inspect.signature(Desk.say).parameters), ["self", "line"])

    def test_refusals(self):
        for name in ("NoTable", "NoPoint", "NoGate", "NoRing", "TooSteep", "NoWeb", "NoBack", "NoText", "NoRow", "NoDeed"):
            self.assertEqual(getattr(errors, name).__bases__, (errors.HeightError,))


class RefusalTest(Case):
    def test_no_table_ahead_of_all_else(self):
        for name, ask in OF_A_TABLE.items():
            with self.subTest(name=name):
                self.assert_refuses_no_table(ask)

    def test_every_function_that_is_handed_a_table_is_looked_at(self):
        named = {name for names in INTERFACE.values() for name, arguments in names.items()
                 if arguments.split()[0] == "rows"}
        self.assertEqual(named, set(OF_A_TABLE))

    def test_each_refusal_as_it_is_raised_is_of_one_class_alone(self):
        steep = [[0, 10], [0, 0]]
        deeds = {
            "NoTable": lambda: ask_table([]),
            "NoPoint": lambda: is_high(steep, 0, 2, 0),
            "NoGate": lambda: place(steep, 0, (0, 1, 0)),
            "NoRing": lambda: ring_area(steep, 0, lines(steep, 0)[0]),
            "TooSteep": lambda: tree(steep),
            "NoWeb": lambda: thinned([("run", ((0, 0), (0, 0)))], 0, []),
            "NoBack": lambda: told_back(2, 2, 0, [[]]),
            "NoText": lambda: read_table(""),
            "NoRow": lambda: Desk("1 2\n3 4").say("tables"),
            "NoDeed": lambda: Desk("1 2\n3 4").say("undo"),
        }
        for name, deed in deeds.items():
            with self.subTest(name=name):
                try:
                    deed()
                except ValueError as refusal:
                    self.assertIsInstance(refusal, errors.HeightError)
                    for other in deeds:
                        self.assertEqual(isinstance(refusal, getattr(errors, other)), other == name)
                else:
                    self.fail("not refused")


class AskTest(Case):
    def test_asked_in_any_order_and_told_things_spoilt(self):
        source = random.Random(91)
        for rows in mixed_tables(25, 92, range(4)):
            before = copy.deepcopy(rows)
            asks = asked_of(rows)
            first = {name: copy.deepcopy(ask()) for name, ask in asks.items()}
            names = list(asks) * 2
            source.shuffle(names)
            for name in names:
                told = asks[name]()
                self.assertEqual(told, first[name], name)
                spoil(told)
                self.assertEqual(rows, before)


if __name__ == "__main__":
    unittest.main()
