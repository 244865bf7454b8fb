"""Rows: tuples of figures from 0 to 59 that do not tell their size."""

from sixtyfold.errors import BadRow

MOST_FIGURES = 12


def times(one, other):
    """The row of the product of two rows' wholes."""
    return row_of(whole_of(one) * whole_of(other))


def cast(row):
    """The sum of a row's figures, less 59 as often as can be."""
    check_row(row)
    return sum(row) % 59


def written(row):
    """The text of a row: its figures with one blank between."""
    check_row(row)
    return " ".join([str(figure) for figure in row])


def read(text):
    """The row that a text writes."""
    # int() would take more than a figure's one way of writing: "07", "+7", "1_0".
    figures = {str(figure): figure for figure in range(60)}
    words = text.split(" ")
    for word in words:
        if word not in figures:
            raise BadRow("a word of the text is no figure")
    row = tuple([figures[word] for word in words])
    check_row(row)
    return row


def check_row(row):
    """Refuse a tuple of numbers that is no row."""
    if not is_row(row):
        raise BadRow("a row has 1 to 12 figures from 0 to 59, the first and the last not 0")


def is_row(figures):
    """Whether these are a row as it can be handed in."""
    return len(figures) <= MOST_FIGURES and is_long_row(figures)


def is_long_row(figures):
    """Whether these are a row of any length, as rows that are told may be."""
    if len(figures) == 0 or min(figures) < 0 or max(figures) > 59:
        return False
    return figures[0] != 0 and figures[-1] != 0


def whole_of(row):
    """The number that a row tells if its last figure counts ones."""
    check_row(row)
    return number_of(row)


def number_of(figures):
    """The number that figures, of any count, tell if the last one counts ones."""
    number = 0
    for figure in figures:
        number = number * 60 + figure
    return number


def figures_of(number):
    """All figures of a number above 0, the noughts at its end too."""
    # Halves of halves, as one figure after the other takes long where a number has thousands.
    powers = [60]
    while powers[-1] <= number:
        powers.append(powers[-1] * powers[-1])
    pieces = [number]
    for power in reversed(powers[:-1]):
        pieces = [half for piece in pieces for half in divmod(piece, power)]
    ahead = 0
    while pieces[ahead] == 0:
        ahead += 1
    return tuple(pieces[ahead:])


def row_of(number):
    """The row of a number above 0; it may be longer than what can be handed in."""
    figures = figures_of(number)
    last = len(figures)
    while figures[last - 1] == 0:
        last -= 1
    return figures[:last]
