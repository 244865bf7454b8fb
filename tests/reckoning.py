"""Problems reckoned a second way, by fractions and by trying all sizes, for the tests."""

from fractions import Fraction
from itertools import product
from math import isqrt

from tests.samples import row, whole

SIZES = range(-6, 7)


def value(number):
    """The fraction that a sized number is."""
    figures, size = number
    return whole(figures) * Fraction(60) ** size


def sized(fraction):
    """The sized number that a fraction above 0 is, None if sixties do not end it."""
    size = 0
    while fraction.denominator != 1:
        if size < -300:
            return None
        fraction *= 60
        size -= 1
    number = fraction.numerator
    while number % 60 == 0:
        number //= 60
        size += 1
    return row(number), size


def root(fraction):
    """The side of a fraction, None if it has none."""
    high, low = isqrt(fraction.numerator), isqrt(fraction.denominator)
    return Fraction(high, low) if Fraction(high, low) ** 2 == fraction else None


def come_to(step, values):
    """The fraction that a step comes to, None if it cannot be done; True or False for a bound."""
    word = step[0]
    if word == "bound":
        least, most = step[2:]
        one = values[step[1]]
        return (least is None or value(least) <= one) and (most is None or one <= value(most))
    one, other = values[step[2]], values[step[-1]]
    if word == "times":
        return one * other
    if word == "part":
        return one / other if sized(one / other) is not None else None
    if word == "sum":
        return one + other
    if word == "less":
        return one - other if one > other else None
    if word == "square":
        return one * one
    return root(one)


def tried(problem, sizes):
    """By these sizes: what all names are, and how many steps could be done."""
    values = {}
    left = list(sizes)
    for at, step in enumerate(problem):
        if step[0] == "given":
            values[step[1]] = value((step[2], left.pop(0)))
            continue
        told = come_to(step, values)
        if told is None or told is False:
            return values, at
        if told is not True:
            values[step[1]] = told
    return values, len(problem)


def tries(problem):
    """All that comes of trying all sizes, the sizes rising."""
    many = sum(step[0] == "given" for step in problem)
    return [tried(problem, sizes) for sizes in product(SIZES, repeat=many)]


def due_ways(problem):
    """What promise [15] says of a problem."""
    return [{name: sized(one) for name, one in values.items()}
            for values, done in tries(problem) if done == len(problem)]


def due_answer(problem, name):
    """What promise [16] says of a problem and one of its names."""
    told = tries(problem)
    farthest = max(done for _, done in told)
    if farthest < len(problem):
        return "none", farthest
    numbers = [sized(one) for one in sorted({values[name] for values, done in told if done == farthest})]
    return ("one", numbers[0]) if len(numbers) == 1 else ("sizes", numbers)
