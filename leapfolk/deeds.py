"""Deeds: what a row does to all standings at once, as a table, and a row for each such table."""

from leapfolk.arithmetic import determinant
from leapfolk.errors import NoRow, NoTable
from leapfolk.grounds import base_of
from leapfolk.kinds import is_tuple_of, is_whole, is_whole_in
from leapfolk.moves import plain_points, points_after_row, unit_points
from leapfolk.rows import need_runs
from leapfolk.verdicts import row_between
from leapfolk.yards import LEAST_PERSONS, is_persons, is_posts

MOST_OF_TABLE = 4


def deed_of(persons, row):
    """Return the table of a row of so many persons."""
    if not is_persons(persons):
        raise NoRow("this is not a number of persons")
    need_runs(persons, (), row)
    # Where the unit points go to are the multiples of all places that the row makes.
    return tuple(points_after_row((0,) * persons, unit_points(persons), row))


def is_square(persons, thing):
    """Return whether thing is a tuple of so many tuples with as many integers."""
    if not is_tuple_of(persons, persons, thing):
        return False
    return all([
        is_tuple_of(persons, persons, line) and all([is_whole(number) for number in line]) for line in thing
    ])


def is_line_of_deed(person, line):
    """Return whether a line of a table sums to 1, is odd at the person's own number and even elsewhere."""
    own = all([number % 2 == (1 if other == person else 0) for other, number in enumerate(line)])
    return own and sum(line) == 1


def is_deed(persons, posts, thing):
    """Return whether thing, which may be anything, is the table of a row in which only walkers leap."""
    if not is_square(persons, thing) or not all([is_line_of_deed(person, line) for person, line in enumerate(thing)]):
        return False
    unmoved = unit_points(persons)
    if any([thing[post] != unmoved[post] for post in posts]):
        return False
    walkers = [person for person in range(persons) if person not in posts]
    return determinant([[thing[person][other] for other in walkers] for person in walkers]) in (1, -1)


def without(points, way):
    """Return the points without one of their ways."""
    return [point[:way] + point[way + 1:] for point in points]


def row_for(persons, posts, table):
    """Return a row with this table in which only walkers leap."""
    if not is_whole_in(LEAST_PERSONS, MOST_OF_TABLE, persons) or not is_posts(persons, posts):
        raise NoTable("this is not a number of persons with posts among them")
    if not is_deed(persons, posts, table):
        raise NoTable("no row of walkers has this table")
    yard = ((0,) * (persons - 1), persons, posts)
    # With the base where all lines begin, and each other person 1 from there on a line of its own, only rows of
    # one and the same table lead to the same standing.
    base = base_of(yard)
    return row_between(yard, without(unit_points(persons), base), without(plain_points(table), base))
