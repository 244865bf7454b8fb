"""The refusals.

No message shows what was handed in: a number of very many figures cannot be written as text.
"""


class SixtyError(ValueError):
    """Any refusal."""


class BadRow(SixtyError):
    """What was handed in as a row, or as a row's text, is none."""


class NotTurned(SixtyError):
    """There is no such part; left is what is in its way."""

    def __init__(self, left):
        super().__init__("no row times the other row is the one")
        self.left = left


class NoSide(SixtyError):
    """A row is no square; why is "two", "three" or "left"."""

    def __init__(self, why):
        super().__init__("no row has this row as its square")
        self.why = why


class BadStep(SixtyError):
    """A step of a problem, the one numbered at, is bad; why is a word."""

    def __init__(self, at, why):
        super().__init__("a step of the problem is bad")
        self.at = at
        self.why = why


class BadText(SixtyError):
    """A line of a problem's text, the one numbered row, is no step."""

    def __init__(self, row):
        super().__init__("a line of the text is no step")
        self.row = row
