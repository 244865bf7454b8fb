"""Rows: tuples of figures from 0 to 59 that do not tell their size."""

from sixtyfold.errors import BadRow

MOST_FIGURES = 12


def times(one, other):
    """The row of the product of two rows' wholes."""
    return row_of(whole_of(one) * whole_of(other))


def cast(row):
    """The sum of a row's figures, less 59 as often as can be."""
    check_row(row)
    return sum(row) % 59


def written(row):
    """The text of a row: its figures with one blank between."""
    check_row(row)
    return " ".join([str(figure) for figure in row])


def read(text):
    """The row that a text writes."""
    # int() would take more than a figure's one way of writing: "07", "+7", "1_0".
    figures = {str(figure): figure for figure in range(60)}
    words = text.split(" ")
    for word in words:
        if word not in figures:
            raise BadRow("a word of the text is no figure")
    row = tuple([figures[word] for word in words])
    check_row(row)
    return row


def check_row(row):
    """Refuse a tuple of numbers that is no row."""
    if not 1 <= len(row) <= MOST_FIGURES:
        raise BadRow("a row has 1 to 12 figures")
    if min(row) < 0 or max(row) > 59:
        raise BadRow("a row's figures are 0 to 59")
    if row[0] == 0 or row[-1] == 0:
        raise BadRow("a row's first and last figure are not 0")


def whole_of(row):
    """The number that a row tells if its last figure counts ones."""
    check_row(row)
    number = 0
    for figure in row:
        number = number * 60 + figure
    return number


def figures_of(number):
    """All figures of a number, the noughts at its end too; none for 0."""
    figures = []
    while number > 0:
        figures.append(number % 60)
        number //= 60
    return tuple(reversed(figures))


def row_of(number):
    """The row of a number above 0; it may be longer than what can be handed in."""
    while number % 60 == 0:
        number //= 60
    return figures_of(number)
