"""The refusals. Each stands under HeightError, none under another one."""


class HeightError(ValueError):
    """Any refusal."""


class NoTable(HeightError):
    """What was handed in, or would be told, is no table."""

    def __init__(self, at):
        HeightError.__init__(self, "no table")
        self.at = at


class NoPoint(HeightError):
    """The table has no such point, or no such cell."""


class NoGate(HeightError):
    """The gate is none of the table's, or isn't open at the cut."""


class NoRing(HeightError):
    """The line is no ring."""


class TooSteep(HeightError):
    """The table's greatest and least height are too far apart."""


class NoWeb(HeightError):
    """The web is not clean."""

    def __init__(self, at):
        HeightError.__init__(self, "the web meets itself")
        self.at = at


class NoBack(HeightError):
    """No table has these lines."""


class NoText(HeightError):
    """The text is no table's."""

    def __init__(self, line):
        HeightError.__init__(self, "no table's text")
        self.line = line


class NoRow(HeightError):
    """The desk knows no such line."""


class NoDeed(HeightError):
    """There is no deed to undo."""
