"""Lattices of integer vectors by their reduced rows; all arguments are taken to be valid.

Rows and vectors may go on behind their width. What stands there follows every step, but no step looks at it: so a
row can carry how it is made of the vectors that were given.
"""

from leapfolk.arithmetic import is_all_zero, less_times


def first_place(vector):
    """Return the place of the first number that is not 0, or None."""
    for place, number in enumerate(vector):
        if number != 0:
            return place
    return None


def settle(rows, vector):
    """Return a list of what is left of the vector after as much of each reduced row as fits is taken away."""
    rest = list(vector)
    for row in rows:
        place = first_place(row)
        rest = less_times(rest, rest[place] // row[place], row)
    return rest


def multiples(rows, vector):
    """Return how many times each reduced row is in a vector of their lattice."""
    rest = list(vector)
    found = []
    for row in rows:
        place = first_place(row)
        times = rest[place] // row[place]
        rest = less_times(rest, times, row)
        found.append(times)
    return found


def cleared(upper, lower, place):
    """Return two vectors that generate what these two do, the second of them with 0 at the place."""
    while lower[place] != 0:
        upper, lower = lower, less_times(upper, upper[place] // lower[place], lower)
    return upper, lower


def made_positive(row):
    """Return the row or its negative, so that its first number that is not 0 is positive."""
    if row[first_place(row)] < 0:
        return [-number for number in row]
    return row


def tidied(rows):
    """Return the reduced rows of rows that each begin further to the right than the one before."""
    # From the last row to the first, the rows below one are reduced already when it is settled by them.
    tidy = []
    for row in rows[::-1]:
        tidy = [settle(tidy, made_positive(row))] + tidy
    return tidy


def joined(width, rows, vector):
    """Return the reduced rows of the lattice of reduced rows and one more vector."""
    rest = settle(rows, vector)
    if is_all_zero(rest[:width]):
        return rows
    begun = {}
    for row in rows:
        begun[first_place(row)] = row
    for place in range(width):
        if place in begun:
            begun[place], rest = cleared(begun[place], rest, place)
        elif rest[place] != 0:
            begun[place] = rest
            rest = [0] * len(rest)
    return tidied([begun[start] for start in sorted(begun)])


def reduced_rows(width, vectors):
    """Return the reduced rows of the lattice of the vectors, as lists."""
    rows = []
    for vector in vectors:
        rows = joined(width, rows, vector)
    return rows


def is_reduced(rows):
    """Return whether vectors of one length, each a tuple, are reduced rows."""
    last = -1
    for k, row in enumerate(rows):
        place = first_place(row)
        if place is None or place <= last or row[place] < 0:
            return False
        if not all([0 <= earlier[place] < row[place] for earlier in rows[:k]]):
            return False
        last = place
    return True
