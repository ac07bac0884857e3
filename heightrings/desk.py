"""A desk: it has a table, and answers lines of text (point 27)."""

from heightrings.areas import region_areas
from heightrings.bands import nodes_at, word_of
from heightrings.errors import NoDeed, NoRow
from heightrings.gates import ask_point, is_high
from heightrings.lines import lines
from heightrings.maps import pins_of, web_of
from heightrings.peaks import peaks
from heightrings.regions import regions
from heightrings.tables import ask_table, mirrored, raised, turned
from heightrings.texts import is_number, read_table, show_line, show_number, show_table
from heightrings.thin import thinned
from heightrings.within import lies_in

# The numbers that stand behind each word: X, Y and H any, N by how much to raise, C a cut or a height, B a bound.
FORMS = {
    "table": ("",),
    "put": ("XYH",),
    "raise": ("N",),
    "turn": ("",),
    "mirror": ("",),
    "undo": ("",),
    "lines": ("C",),
    "in": ("C",),
    "regions": ("C",),
    "side": ("XYC",),
    "area": ("C",),
    "node": ("C",),
    "peaks": ("",),
    "thin": ("BC", "BCC", "BCCC"),
}
LIMITS = {"N": (-(10 ** 10), 10 ** 10), "C": (-(10 ** 10), 10 ** 10), "B": (0, 10 ** 6)}


def read_row(line):
    """The word and the numbers of a line that a desk knows."""
    if not isinstance(line, str):
        raise NoRow("no text")
    word, *texts = line.split(" ")
    if not any([has_form(form, texts) for form in FORMS.get(word, ())]):
        raise NoRow("no such line")
    numbers = [int(text) for text in texts]
    if word == "thin" and len(set(numbers[1:])) < len(numbers) - 1:
        raise NoRow("alike cuts")
    return (word, numbers)


def has_form(form, texts):
    """Whether the texts are just the numbers that a form asks for."""
    return len(form) == len(texts) and all([is_of_kind(kind, text) for kind, text in zip(form, texts)])


def is_of_kind(kind, text):
    """Whether a text is a number of a kind."""
    if not is_number(text):
        return False
    if kind not in LIMITS:
        return True
    least, greatest = LIMITS[kind]
    return least <= int(text) <= greatest


def put(rows, numbers):
    """The table with another height at a point."""
    x, y, height = numbers
    ask_point(rows, x, y)
    changed = [list(row) for row in rows]
    changed[y][x] = height
    ask_table(changed)
    return changed


def lift(rows, numbers):
    """The table raised."""
    return raised(rows, numbers[0])


def turn_right(rows, numbers):
    """The table turned."""
    return turned(rows)


def mirror(rows, numbers):
    """The table mirrored."""
    return mirrored(rows)


def tell_table(rows, numbers):
    """The table's text in one line."""
    return show_table(rows).replace("\n", "; ")


def tell_lines(rows, numbers):
    """The lines at a cut."""
    return "; ".join([show_line(line) for line in lines(rows, numbers[0])]) or "none"


def tell_within(rows, numbers):
    """For each line at a cut, in which ones it lies."""
    return " ".join([show_indexes(some) for some in lies_in(rows, numbers[0])]) or "none"


def show_indexes(some):
    """The text of a tuple of indexes."""
    return ",".join([str(at) for at in some]) or "-"


def tell_regions(rows, numbers):
    """How many high and how many low regions a cut has."""
    words = [word for word, within in regions(rows, numbers[0])]
    highs, lows = words.count("high"), words.count("low")
    return f"{highs} {lows}"


def tell_side(rows, numbers):
    """Whether a point is high or low."""
    x, y, cut = numbers
    return "high" if is_high(rows, cut, x, y) else "low"


def tell_areas(rows, numbers):
    """The areas of a cut's regions."""
    return " ".join([show_fraction(area) for area in region_areas(rows, numbers[0])])


def show_fraction(fraction):
    """The text of a fraction."""
    top, bottom = fraction
    if bottom == 1:
        return show_number(top)
    return show_number(top) + "/" + show_number(bottom)


def tell_nodes(rows, numbers):
    """The words of the nodes at a height."""
    return " ".join([word_of(node) for node in nodes_at(rows, numbers[0])]) or "none"


def tell_peaks(rows, numbers):
    """The heights and passes of the peaks."""
    return "; ".join([f"{height} {show_pass(over)}" for top, height, over in peaks(rows)])


def show_pass(over):
    """The text of a pass, be there one or not."""
    return "-" if over is None else str(over)


def tell_thinned(rows, numbers):
    """How many points the web of some cuts has, and how many are left of it when it is thinned."""
    web = web_of(rows, numbers[1:])
    thin = thinned(web, numbers[0], pins_of(rows))
    return f"{many_points(web)} {many_points(thin)}"


def many_points(web):
    """How many points a web has."""
    return sum([len(path) for word, path in web])


DEEDS = {"put": put, "raise": lift, "turn": turn_right, "mirror": mirror}
ANSWERS = {
    "table": tell_table,
    "lines": tell_lines,
    "in": tell_within,
    "regions": tell_regions,
    "side": tell_side,
    "area": tell_areas,
    "node": tell_nodes,
    "peaks": tell_peaks,
    "thin": tell_thinned,
}


class Desk:
    """A table, the ones that it was before, and what may be said to it."""

    def __init__(self, text):
        self.rows = read_table(text)
        self.past = []

    def say(self, line):
        """The answer to a line."""
        word, numbers = read_row(line)
        if word in ANSWERS:
            answer = ANSWERS[word]
            return answer(self.rows, numbers)
        if word == "undo":
            self.go_back()
        else:
            deed = DEEDS[word]
            changed = deed(self.rows, numbers)
            self.past.append(self.rows)
            self.rows = changed
        return "ok"

    def go_back(self):
        """Undoes the last deed."""
        if not self.past:
            raise NoDeed("nothing to undo")
        self.rows = self.past.pop()
