"""Readings: what they are, and what they read of a vector."""

from math import gcd

from leapfolk.errors import NoReading, NoVector
from leapfolk.kinds import is_tuple_of, is_whole
from leapfolk.portions import read_of
from leapfolk.spans import is_vector
from leapfolk.yards import need_yard


def is_fraction(thing):
    """Return whether thing is a fraction: a tuple (top, bottom) in lowest terms with bottom at least 1."""
    if not is_tuple_of(2, 2, thing) or not all([is_whole(number) for number in thing]):
        return False
    top, bottom = thing
    return bottom >= 1 and gcd(top, bottom) == 1


def wrong_of_ways(ways, thing):
    """Return what is wrong first with thing as a reading of these ways, or None."""
    if not is_tuple_of(len(ways), len(ways), thing):
        return ("reading",)
    for k, fraction in enumerate(thing):
        if not is_fraction(fraction):
            return ("fraction", k)
    for k, way in enumerate(ways):
        # On a line way is 0, and so is what remains.
        if thing[k][0] * way % thing[k][1] != 0:
            return ("ring", k)
    return None


def is_reading(yard, thing):
    """Return whether thing is a reading of the yard's ways."""
    return wrong_of_ways(yard[0], thing) is None


def reading_wrong(yard, thing):
    """Return None if thing is a reading of the yard's ways, otherwise a tuple that says what is wrong first."""
    need_yard(yard)
    return wrong_of_ways(yard[0], thing)


def reads(yard, reading, vector):
    """Return the fraction that the reading reads of the vector."""
    need_yard(yard)
    if not is_reading(yard, reading):
        raise NoReading("this is not a reading of the yard's ways")
    if not is_vector(len(yard[0]), vector):
        raise NoVector("this is not a vector of the yard's ways")
    return read_of(reading, vector)
