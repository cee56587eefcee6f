"""Fractions in lowest terms, and what readings made of them give; all arguments are taken to be valid."""

from math import gcd, lcm

from leapfolk.lattices import first_place, settle


def lowest(top, bottom):
    """Return top over bottom as a fraction; bottom is at least 1."""
    common = gcd(top, bottom)
    return (top // common, bottom // common)


def part_of(top, bottom):
    """Return the part of top over bottom that is at least 0 and below 1, as a fraction; bottom is at least 1."""
    return lowest(top % bottom, bottom)


def parts_of(fractions):
    """Return a reading that reads the same as these fractions, with all of its own at least 0 and below 1."""
    return tuple([part_of(top, bottom) for top, bottom in fractions])


def sum_over(reading, vector):
    """Return the sum of the products as (top, bottom), not in lowest terms."""
    bottom = 1
    for _, each in reading:
        bottom = lcm(bottom, each)
    top = sum([above * (bottom // below) * number for (above, below), number in zip(reading, vector)])
    return top, bottom


def read_of(reading, vector):
    """Return the fraction that the reading reads of the vector."""
    top, bottom = sum_over(reading, vector)
    return part_of(top, bottom)


def reads_zero(reading, vectors):
    """Return whether the reading is 0 of each of the vectors."""
    return all([read_of(reading, vector) == (0, 1) for vector in vectors])


def table_of(count, readings, vectors):
    """Return count times each reading of each vector, a list per reading, or None if one of them is no integer."""
    table = []
    for reading in readings:
        found = [read_of(reading, vector) for vector in vectors]
        if not all([count % bottom == 0 for _, bottom in found]):
            return None
        table.append([count // bottom * top for top, bottom in found])
    return table


def products_of(slopes, vectors):
    """Return the sum of products of each slope and vector, a list per slope, or None if one of them is no integer."""
    table = []
    for slope in slopes:
        found = [sum_over(slope, vector) for vector in vectors]
        if not all([top % bottom == 0 for top, bottom in found]):
            return None
        table.append([top // bottom for top, bottom in found])
    return table


def completed(fractions, rows, values):
    """Return the fractions after those at the rows' first places are chosen, so that the sums of products are values.

    The rows are reduced rows, and the fractions that are given are 0 at their first places. Values are fractions.
    """
    found = list(fractions)
    # What stands to the right of a row's first place has been chosen before it.
    for row, (top, bottom) in list(zip(rows, values))[::-1]:
        place = first_place(row)
        above, below = sum_over(found, row)
        found[place] = lowest(top * below - above * bottom, bottom * below * row[place])
    return tuple(found)


def apart(rows, vector):
    """Return a reading that is 0 of the whole lattice of reduced rows, but not of a vector outside of it."""
    rest = settle(rows, vector)
    place = first_place(rest)
    found = [(0, 1)] * len(rest)
    sizes = [row[place] for row in rows if first_place(row) == place]
    # Of a row that begins there the vector has only a part; otherwise one half of what it has there will do.
    found[place] = (1, sizes[0] if sizes else 2 * abs(rest[place]))
    before = [row for row in rows if first_place(row) < place]
    return parts_of(completed(found, before, [(0, 1)] * len(before)))
