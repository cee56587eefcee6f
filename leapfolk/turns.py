"""The turn of a standing, and all that never changes under leaps."""

from leapfolk.arithmetic import determinant, inverse_within
from leapfolk.colours import settled_points
from leapfolk.frames import frame_of
from leapfolk.grounds import kept_rows, mover_vectors, posts_of
from leapfolk.moves import plain_points
from leapfolk.yards import need_standing


def smaller_of_signs(number, modulus):
    """Return the smaller remainder of the number and its negative."""
    return min(number % modulus, -number % modulus)


def turn_of(frame, vectors):
    """Return the number that the turn keeps up to sign, for the movers' differences, or None without a turn."""
    if len(frame.makers) != len(vectors) or frame.makers[0] == 0:
        return None
    return smaller_of_signs(determinant([frame.counted(vector) for vector in vectors]), frame.makers[0])


def posts_at(yard, points):
    """Return a list of the posts' points."""
    return [points[post] for post in posts_of(yard)]


def turn_between(yard, one, other):
    """Return the first maker and how often the turn of one makes that of the other, or None."""
    need_standing(yard, one)
    need_standing(yard, other)
    one, other = plain_points(one), plain_points(other)
    if posts_at(yard, one) != posts_at(yard, other) or kept_rows(yard, one) != kept_rows(yard, other):
        return None
    # Of the same posts and kept span both have the same frame, and so a turn both or none of them.
    frame = frame_of(yard, one)
    first, then = [turn_of(frame, mover_vectors(yard, points)) for points in (one, other)]
    if first is None:
        return None
    maker = frame.makers[0]
    return (maker, smaller_of_signs(then * inverse_within(first, maker), maker))


def kept(yard, standing):
    """Return a value that is equal for two standings of the yard exactly if a row leads from one to the other."""
    need_standing(yard, standing)
    points = plain_points(standing)
    posts = tuple(posts_at(yard, points))
    rows = tuple([tuple(row) for row in kept_rows(yard, points)])
    turn = turn_of(frame_of(yard, points), mover_vectors(yard, points))
    return (posts, rows, settled_points(yard, points), turn)
