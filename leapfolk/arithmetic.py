"""Integer arithmetic on numbers, vectors and tables."""

from itertools import combinations
from math import gcd


def less_times(vector, times, other):
    """Return the vector less so many times the other one, as a list."""
    return [number - times * less for number, less in zip(vector, other)]


def vector_between(start, end):
    """Return the vector from one point to another, as a list."""
    return [high - low for low, high in zip(start, end)]


def is_all_zero(vector):
    """Return whether every number of the vector is 0."""
    return all([number == 0 for number in vector])


def within(number, modulus):
    """Return the number modulo the modulus, or the number itself if the modulus is 0."""
    if modulus == 0:
        return number
    return number % modulus


def centred(number, modulus):
    """Return what has the same remainder and the smallest absolute value, or the number itself if the modulus is 0."""
    if modulus == 0:
        return number
    half = modulus // 2
    return (number + half) % modulus - half


def inverse_within(number, modulus):
    """Return what gives 1 modulo the modulus, times a number that has no divisor in common with it.

    If the modulus is 0, the number is 1 or -1.
    """
    if modulus == 0:
        return number
    low, high = modulus, number % modulus
    low_times, high_times = 0, 1
    while high != 0:
        times = low // high
        low, high = high, low - times * high
        low_times, high_times = high_times, low_times - times * high_times
    return low_times % modulus


def determinant(rows):
    """Return the determinant of a square table, a list of lists."""
    if not rows:
        return 1
    first, *others = rows
    total = 0
    for place, number in enumerate(first):
        if number != 0:
            minor = determinant([row[:place] + row[place + 1:] for row in others])
            # The signs of the minors alternate.
            total += number * minor if place % 2 == 0 else -number * minor
    return total


def minors_divisor(rows, columns, count):
    """Return the greatest common divisor of count and all determinants of as many columns as there are rows."""
    found = count
    for places in combinations(range(columns), len(rows)):
        found = gcd(found, determinant([[row[place] for place in places] for row in rows]))
    return found


def sum_of_times(vectors, times, width):
    """Return the sum of the vectors, each so many times, as a list of that width."""
    total = [0] * width
    for vector, many in zip(vectors, times):
        total = less_times(total, -many, vector)
    return total


def coprime_like(number, modulus, larger):
    """Return what is number modulo the modulus and has no divisor in common with a larger multiple of the modulus.

    The number has none in common with the modulus itself.
    """
    rest = larger
    while gcd(rest, modulus) != 1:
        rest //= gcd(rest, modulus)
    # It is to be 1 modulo all that the modulus does not know of the larger number.
    return number + modulus * ((1 - number) * inverse_within(modulus, rest) % rest)


def same_up_to_sign(number, other, modulus):
    """Return whether two numbers are equal modulo the modulus, as they are or with one sign changed."""
    return (number - other) % modulus == 0 or (number + other) % modulus == 0
