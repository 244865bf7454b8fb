"""Rows, wrong rows and a second way of reckoning, for the tests."""

from sixtyfold.rows import cast, times, written
from sixtyfold.slips import slips
from sixtyfold.squares import near_side, side, squared
from sixtyfold.tables import faults, table
from sixtyfold.turning import factors, part, turned

LOWEST = (1,)
HIGHEST = (59,) * 12


def whole(row):
    """The number that a row tells if its last figure counts ones."""
    return sum(figure * 60 ** place for place, figure in enumerate(reversed(row)))


def row(number):
    """The row of a number above 0."""
    places = 1
    while 60 ** places <= number:
        places += 1
    figures = [number // 60 ** place % 60 for place in reversed(range(places))]
    while figures[-1] == 0:
        figures.pop()
    return tuple(figures)


def left_of(number):
    """What is left of a number without 2, 3 and 5."""
    for prime in (2, 3, 5):
        while number % prime == 0:
            number //= prime
    return number


def some_rows(most):
    """Rows of each length from 1 to most, the same ones each time."""
    rows = []
    state = 1
    for length in range(1, most + 1):
        rows.append((1,) if length == 1 else (1,) + (0,) * (length - 2) + (1,))
        rows.append((59,) * length)
        for _ in range(12):
            figures = []
            for _ in range(length):
                state = (state * 1103515245 + 12345) % 2 ** 31
                figures.append((state >> 16) % 60)
            figures[0] = figures[0] or 30
            figures[-1] = figures[-1] or 12
            rows.append(tuple(figures))
    return rows


def small_numbers():
    """Numbers with each kind of factor, none that sixty goes into."""
    return [number for number in range(1, 700) if number % 60 != 0]


def wrong_rows():
    """Tuples of numbers that are no rows."""
    wrong = [(), (0,), (0, 0), (1,) * 13, (59,) * 13, (1,) + (0,) * 11 + (1,), (7,) * 40, (0,) * 13]
    for length in (1, 2, 3, 7, 12):
        good = (7,) * length
        wrong.append((0,) + good[1:])
        wrong.append(good[:-1] + (0,))
        for place in range(length):
            for figure in (-1, -7, -60, 60, 61, 3600, 10 ** 5000, -10 ** 5000):
                wrong.append(good[:place] + (figure,) + good[place + 1:])
    return wrong


# Everything that takes a row, once for each place where it takes one. The other
# row, where there is one, is such that the call would be refused for another
# reason (no part, no side) or is itself no row.
TAKERS = {
    "times, one": lambda bad: times(bad, (2,)),
    "times, other": lambda bad: times((2,), bad),
    "times, both": lambda bad: times(bad, bad),
    "cast": cast,
    "written": written,
    "factors": factors,
    "part, one": lambda bad: part(bad, (2,)),
    "part, one, other does not part it": lambda bad: part(bad, (11,)),
    "part, other": lambda bad: part((2,), bad),
    "part, other, one of twelve": lambda bad: part(HIGHEST, bad),
    "part, both": lambda bad: part(bad, bad),
    "turned": turned,
    "squared": squared,
    "side": side,
    "near_side": lambda bad: near_side(bad, False, 1),
    "near_side, odd": lambda bad: near_side(bad, True, 6),
    "slips, due": lambda bad: slips(bad, (2,)),
    "slips, due and told": lambda bad: slips(bad, bad),
    "table": table,
    "faults": lambda bad: faults(bad, [(2,)] * 23),
    "faults, told": lambda bad: faults(bad, [bad] * 23),
}
