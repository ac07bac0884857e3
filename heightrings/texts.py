"""Tables and lines as texts (point 26)."""

from heightrings.errors import NoText
from heightrings.tables import ask_table

MOST_FIGURES = 11
FIGURES = "0123456789"
# Python itself refuses to write a number of some thousands of figures, so it is written by pieces of so many.
PIECE = 64
BEYOND_A_PIECE = 10 ** 64


def show_table(rows):
    """The text of a table."""
    ask_table(rows)
    return "\n".join([" ".join([str(height) for height in row]) for row in rows])


def show_line(line):
    """The text of a line."""
    word, path = line
    return " ".join([word] + [show_gate(gate) for gate in path])


def show_gate(gate):
    """The text of a gate."""
    return ",".join([show_number(number) for number in gate])


def show_number(number):
    """A whole number, written by as many figures as it has."""
    pieces = []
    rest = abs(number)
    while rest >= BEYOND_A_PIECE:
        rest, piece = divmod(rest, BEYOND_A_PIECE)
        pieces.append(str(piece).zfill(PIECE))
    pieces.append(str(rest))
    return ("-" if number < 0 else "") + "".join(pieces[::-1])


def read_table(text):
    """The table that a text tells."""
    rows = []
    for at, line in enumerate(text.split("\n")):
        words = line.split(" ")
        if not all([is_number(word) for word in words]):
            raise NoText(at)
        rows.append([int(word) for word in words])
    ask_table(rows)
    return rows


def is_number(word):
    """Whether a text is a whole number of few figures, written as a told one is."""
    figures = word[1:] if word.startswith("-") else word
    if not 1 <= len(figures) <= MOST_FIGURES:
        return False
    if not all([sign in FIGURES for sign in figures]):
        return False
    return figures[0] != "0" or word == "0"
