"""Sized numbers, kept as (whole, size): the whole, that no sixty goes into, times sixty so often as the size tells.

Each number above 0 that sixties part to an end is just one such tuple. What cannot be done is told as None.
"""

from math import isqrt

from sixtyfold.rows import row_of
from sixtyfold.turning import left_of, parted


def sized(whole, size):
    """The sized number that is a whole above 0 times sixty so often."""
    while whole % 60 == 0:
        whole //= 60
        size += 1
    return whole, size


def sixties(many):
    """Sixty times itself so often, from 1 for none."""
    # By squares, as the sizes of numbers that were squared again and again are big.
    power = 1
    square = 60
    while many > 0:
        if many % 2 == 1:
            power *= square
        square *= square
        many //= 2
    return power


def levelled(one, other):
    """The wholes of two sized numbers, both at the lower of their sizes, and this size."""
    size = min(one[1], other[1])
    return one[0] * sixties(one[1] - size), other[0] * sixties(other[1] - size), size


def rank_of(number):
    """The place of a sized number's first figure, and its row: sized numbers rise as these do."""
    whole, size = number
    row = row_of(whole)
    return len(row) + size, row


def product_of(one, other):
    """The one times the other."""
    return sized(one[0] * other[0], one[1] + other[1])


def part_of(one, other):
    """The one parted by the other, if sixties end this."""
    if one[0] % left_of(other[0]) != 0:
        return None
    quotient, often = parted(one[0], other[0])
    return sized(quotient, one[1] - other[1] - often)


def sum_of(one, other):
    """The one and the other."""
    first, second, size = levelled(one, other)
    return sized(first + second, size)


def rest_of(one, other):
    """The one less the other, if this is above 0."""
    first, second, size = levelled(one, other)
    if first <= second:
        return None
    return sized(first - second, size)


def square_of(one):
    """The one times itself."""
    return product_of(one, one)


def side_of(one):
    """The number whose square the one is, at its size."""
    whole, size = one
    # Sixty itself is no square: of an odd size, one sixty goes to the whole and the others are halved.
    if size % 2 != 0:
        whole *= 60
        size -= 1
    root = isqrt(whole)
    if root * root != whole:
        return None
    return sized(root, size // 2)


ACTIONS = {
    "times": product_of,
    "part": part_of,
    "sum": sum_of,
    "less": rest_of,
    "square": square_of,
    "side": side_of,
}


def come_to(word, numbers):
    """What a step of this word makes of the numbers that it is made of."""
    action = ACTIONS[word]
    return action(*numbers)
