"""The colours of points for a standing."""

from leapfolk.errors import NoPerson
from leapfolk.grounds import colour_rows
from leapfolk.kinds import is_whole_in
from leapfolk.lattices import settle
from leapfolk.moves import plain_points
from leapfolk.yards import need_standing


def settled_points(yard, points):
    """Return a tuple with each person's point settled by the lattice that tells colours apart."""
    rows = colour_rows(yard, points)
    return tuple([tuple(settle(rows, point)) for point in points])


def colour_points(yard, standing):
    """Return a tuple with one point per person that stands for the person's colour."""
    need_standing(yard, standing)
    return settled_points(yard, plain_points(standing))


def same_colour(yard, standing, i, j):
    """Return whether two persons have the same colour."""
    need_standing(yard, standing)
    for person in (i, j):
        if not is_whole_in(0, yard[1] - 1, person):
            raise NoPerson(person)
    colours = settled_points(yard, plain_points(standing))
    return colours[i] == colours[j]
