"""Squares of rows, their sides, and the first figures of square roots."""

from math import isqrt

from sixtyfold.errors import NoSide
from sixtyfold.rows import figures_of, row_of, times, whole_of
from sixtyfold.turning import factors


def squared(row):
    """A row times itself."""
    return times(row, row)


def side(row):
    """The row whose square a row is."""
    (twos, threes, fives), left = factors(row)
    if twos % 2 != 0:
        raise NoSide("two")
    if (threes - fives) % 2 != 0:
        raise NoSide("three")
    if isqrt(left) * isqrt(left) != left:
        raise NoSide("left")
    number = whole_of(row)
    # A lone 3 and a lone 5 are made pairs by sixty, which does not change the row.
    if threes % 2 != 0:
        number *= 60
    return row_of(isqrt(number))


def near_side(row, is_odd, places):
    """The first so many figures of the square root of a row's whole, or of sixty times that."""
    number = whole_of(row)
    if is_odd:
        number *= 60
    # Two noughts more behind a number give its root one figure more.
    for _ in range(places):
        number *= 3600
    return figures_of(isqrt(number))[:places]
