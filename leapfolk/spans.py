"""Vectors, their lattices by reduced rows, and the three lattices of a standing."""

from leapfolk.arithmetic import is_all_zero
from leapfolk.errors import NoVector
from leapfolk.grounds import floor_rows, kept_rows, span_rows
from leapfolk.kinds import is_tuple_of, is_whole, is_whole_in
from leapfolk.lattices import is_reduced, reduced_rows, settle
from leapfolk.moves import plain_points
from leapfolk.yards import MOST_WAYS, need_standing


def is_vector(width, thing):
    """Return whether thing is a vector of so many integers."""
    return is_tuple_of(width, width, thing) and all([is_whole(number) for number in thing])


def is_vectors(width, thing):
    """Return whether thing is a list of vectors of so many integers."""
    return isinstance(thing, list) and all([is_vector(width, vector) for vector in thing])


def returned(rows):
    """Return a new list of the rows, as plain tuples."""
    return [tuple(row) for row in rows]


def reduced(width, vectors):
    """Return the reduced rows of the lattice of vectors with so many integers each."""
    if not is_whole_in(1, MOST_WAYS, width):
        raise NoVector("this is not a number of ways")
    if not is_vectors(width, vectors):
        raise NoVector("this is not a list of vectors of so many integers")
    return returned(reduced_rows(width, plain_points(vectors)))


def need_rows(rows, vector):
    """Raise NoVector if rows are not reduced rows or vector is not a vector as long as they are."""
    if not is_tuple_of(1, MOST_WAYS, vector) or not is_vector(len(vector), vector):
        raise NoVector("this is not a vector")
    if not is_vectors(len(vector), rows) or not is_reduced(rows):
        raise NoVector("these are not reduced rows of the vector's length")


def lies_in(rows, vector):
    """Return whether the vector is in the lattice with these reduced rows."""
    need_rows(rows, vector)
    return is_all_zero(settle(rows, vector))


def settled(rows, vector):
    """Return the one vector that the lattice's reduced rows leave of all that differ from it by the lattice."""
    need_rows(rows, vector)
    return tuple([int(number) for number in settle(rows, vector)])


def span(yard, standing):
    """Return the reduced rows of the span of a standing."""
    need_standing(yard, standing)
    return returned(span_rows(yard, plain_points(standing)))


def floor(yard, standing):
    """Return the reduced rows of the floor of a standing."""
    need_standing(yard, standing)
    return returned(floor_rows(yard, plain_points(standing)))


def kept_span(yard, standing):
    """Return the reduced rows of the kept span of a standing."""
    need_standing(yard, standing)
    return returned(kept_rows(yard, plain_points(standing)))
