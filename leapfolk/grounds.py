"""Base, movers and the lattices of a yard and a standing; all arguments are taken to be valid."""

from leapfolk.arithmetic import vector_between
from leapfolk.lattices import reduced_rows


def ring_vectors(ways):
    """Return the ring vectors of a ground with these ways, as lists."""
    return [
        [int(way) if place == number else 0 for place in range(len(ways))]
        for number, way in enumerate(ways) if way != 0
    ]


def posts_of(yard):
    """Return a list of the posts' numbers."""
    _, persons, posts = yard
    return [person for person in range(persons) if person in posts]


def base_of(yard):
    """Return the number of the base: the first post, or person 0."""
    return min(posts_of(yard), default=0)


def movers_of(yard):
    """Return a list of the movers' numbers."""
    _, persons, posts = yard
    base = base_of(yard)
    return [person for person in range(persons) if person not in posts and person != base]


def other_posts_of(yard):
    """Return a list of the posts' numbers but for the base's."""
    return posts_of(yard)[1:]


def from_base(yard, points, persons):
    """Return a list of these persons' differences from the base."""
    start = points[base_of(yard)]
    return [vector_between(start, points[person]) for person in persons]


def mover_vectors(yard, points):
    """Return a list of the movers' differences from the base."""
    return from_base(yard, points, movers_of(yard))


def doubled(vectors):
    """Return twice each of the vectors."""
    return [[2 * number for number in vector] for vector in vectors]


def floor_vectors(yard, points):
    """Return vectors that generate the floor: twice each other post's difference, then the ring vectors."""
    return doubled(from_base(yard, points, other_posts_of(yard))) + ring_vectors(yard[0])


def floor_rows(yard, points):
    """Return the reduced rows of the floor."""
    return reduced_rows(len(yard[0]), floor_vectors(yard, points))


def kept_rows(yard, points):
    """Return the reduced rows of the kept span."""
    return reduced_rows(len(yard[0]), mover_vectors(yard, points) + floor_vectors(yard, points))


def span_rows(yard, points):
    """Return the reduced rows of the span."""
    vectors = [vector_between(points[0], point) for point in points[1:]]
    return reduced_rows(len(yard[0]), vectors + ring_vectors(yard[0]))


def colour_rows(yard, points):
    """Return the reduced rows of the lattice by which colours are told apart."""
    return reduced_rows(len(yard[0]), doubled(span_rows(yard, points)) + ring_vectors(yard[0]))
