"""Cells: all persons gathered on the corners of a cell of their ground."""

from leapfolk.arithmetic import is_all_zero, vector_between
from leapfolk.errors import NoCell, NoYard
from leapfolk.grounds import colour_rows, span_rows
from leapfolk.kinds import is_tuple_of
from leapfolk.lattices import reduced_rows, settle
from leapfolk.moves import plain_point, plain_points
from leapfolk.spans import is_vector
from leapfolk.verdicts import row_between
from leapfolk.yards import need_standing, need_yard


def need_open_yard(yard):
    """Raise NoYard if yard is not a yard that has only lines and no posts."""
    need_yard(yard)
    ways, _, posts = yard
    if len(posts) != 0 or not is_all_zero(ways):
        raise NoYard("this yard has posts or rings")


def is_cell(yard, points, corner, steps):
    """Return whether corner and steps, which may be anything, are a cell of the points."""
    width, rows = len(yard[0]), span_rows(yard, points)
    if not is_vector(width, corner) or not is_tuple_of(len(rows), len(rows), steps):
        return False
    if not all([is_vector(width, step) for step in steps]) or reduced_rows(width, plain_points(steps)) != rows:
        return False
    return is_all_zero(settle(rows, vector_between(points[0], corner)))


def corners_of(corner, steps):
    """Return a list of all corners of a cell."""
    corners = [corner]
    for step in steps:
        corners = corners + [tuple([low + more for low, more in zip(point, step)]) for point in corners]
    return corners


def gathered(yard, standing, corner, steps):
    """Return a standing in which all persons stand on corners of the cell, and a row that leads there."""
    need_open_yard(yard)
    need_standing(yard, standing)
    points = plain_points(standing)
    if not is_cell(yard, points, corner, steps):
        raise NoCell("this is not a cell of the standing")
    rows = colour_rows(yard, points)
    # No two corners of a cell have the same colour, and each colour of the span has one.
    places = {}
    for point in corners_of(plain_point(corner), plain_points(steps)):
        places[tuple(settle(rows, point))] = point
    end = [places[tuple(settle(rows, point))] for point in points]
    return tuple(end), row_between(yard, points, end)
