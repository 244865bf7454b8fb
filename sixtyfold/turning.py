"""Turned numbers: what parts by sixties to an end, and what does not."""

from math import gcd

from sixtyfold.errors import NotTurned
from sixtyfold.rows import row_of, whole_of

PRIMES = (2, 3, 5)


def factors(row):
    """How often 2, 3 and 5 go into a row's whole, and what is left without them."""
    return factors_of(whole_of(row))


def part(one, other):
    """The row that times the other row is the one."""
    number = whole_of(one)
    divisor = whole_of(other)
    left = left_of(divisor)
    if number % left != 0:
        raise NotTurned(left // gcd(left, number))
    quotient, _ = parted(number, divisor)
    return row_of(quotient)


def turned(row):
    """The row that times this row is (1,)."""
    return part((1,), row)


def turnables(places):
    """All rows of at most so many figures that have a turned one, rising as tuples are."""
    limit = 1
    for _ in range(places):
        limit *= 60
    # These are the numbers into which no more than 2, 3 and 5 go.
    numbers = powers_below(2, limit)
    for prime in (3, 5):
        powers = powers_below(prime, limit)
        numbers = [number * power for number in numbers for power in powers if number * power < limit]
    return sorted([row_of(number) for number in numbers if number % 60 != 0])


def powers_below(prime, limit):
    """1, the prime, its square and so on, as far as they are below the limit."""
    powers = []
    power = 1
    while power < limit:
        powers.append(power)
        power *= prime
    return powers


def factors_of(number):
    """How often 2, 3 and 5 go into a number above 0, and what is left without them."""
    left = number
    counts = []
    for prime in PRIMES:
        often = 0
        while left % prime == 0:
            left //= prime
            often += 1
        counts.append(often)
    return tuple(counts), left


def left_of(number):
    """What is left of a number above 0 without 2, 3 and 5."""
    _, left = factors_of(number)
    return left


def parted(number, divisor):
    """A number, taken times sixty until a divisor goes into it, parted by this; and how often it was taken so.

    What is left of the divisor must go into the number: then enough sixties bring it to an end.
    """
    sixties = 0
    while number % divisor != 0:
        number *= 60
        sixties += 1
    return number // divisor, sixties
