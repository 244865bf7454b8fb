"""Turned numbers: what parts by sixties to an end, and what does not."""

from math import gcd

from sixtyfold.errors import NotTurned
from sixtyfold.rows import row_of, whole_of

PRIMES = (2, 3, 5)


def factors(row):
    """How often 2, 3 and 5 go into a row's whole, and what is left without them."""
    left = whole_of(row)
    counts = []
    for prime in PRIMES:
        often = 0
        while left % prime == 0:
            left //= prime
            often += 1
        counts.append(often)
    return tuple(counts), left


def part(one, other):
    """The row that times the other row is the one."""
    number = whole_of(one)
    _, left = factors(other)
    if number % left != 0:
        raise NotTurned(left // gcd(left, number))
    divisor = whole_of(other) // left
    number //= left
    # Only 2, 3 and 5 go into the divisor now, so enough sixties bring it to an end.
    while number % divisor != 0:
        number *= 60
    return row_of(number // divisor)


def turned(row):
    """The row that times this row is (1,)."""
    return part((1,), row)


def turnables(places):
    """All rows of at most so many figures that have a turned one, rising as tuples are."""
    limit = 1
    for _ in range(places):
        limit *= 60
    # These are the numbers into which no more than 2, 3 and 5 go.
    numbers = powers_below(2, limit)
    for prime in (3, 5):
        powers = powers_below(prime, limit)
        numbers = [number * power for number in numbers for power in powers if number * power < limit]
    return sorted([row_of(number) for number in numbers if number % 60 != 0])


def powers_below(prime, limit):
    """1, the prime, its square and so on, as far as they are below the limit."""
    powers = []
    power = 1
    while power < limit:
        powers.append(power)
        power *= prime
    return powers
