"""Yards, standings and leaps: what they are, and what one leap does."""

from leapfolk.errors import NoLeap, NoStanding, NoYard
from leapfolk.kinds import is_tuple_of, is_whole, is_whole_in
from leapfolk.moves import plain_points, points_after

LEAST_PERSONS = 2
MOST_PERSONS = 6
MOST_WAYS = 3


def is_way(thing):
    """Return whether thing is 0 (a line) or the size of a ring."""
    return is_whole(thing) and (thing == 0 or thing >= 2)


def is_ways(thing):
    """Return whether thing is the ways of a ground."""
    return is_tuple_of(1, MOST_WAYS, thing) and all([is_way(way) for way in thing])


def is_persons(thing):
    """Return whether thing is a number of persons."""
    return is_whole_in(LEAST_PERSONS, MOST_PERSONS, thing)


def is_posts(persons, thing):
    """Return whether thing is the posts of a yard of so many persons."""
    if not is_tuple_of(0, persons - 1, thing):
        return False
    lowest = 0
    for post in thing:
        if not is_whole_in(lowest, persons - 1, post):
            return False
        lowest = post + 1
    return True


def yard_wrong(thing):
    """Return None if thing is a yard, otherwise a tuple that says what is wrong first."""
    if not is_tuple_of(3, 3, thing):
        return ("yard",)
    ways, persons, posts = thing
    if not is_ways(ways):
        return ("ways",)
    if not is_persons(persons):
        return ("persons",)
    if not is_posts(persons, posts):
        return ("posts",)
    return None


def need_yard(yard):
    """Raise NoYard if yard is not a yard."""
    if yard_wrong(yard) is not None:
        raise NoYard("this is not a yard")


def is_number_on(way, thing):
    """Return whether thing is a place on one way."""
    if way == 0:
        return is_whole(thing)
    return is_whole_in(0, way - 1, thing)


def is_point(ways, thing):
    """Return whether thing is a point of a ground with these ways."""
    if not is_tuple_of(len(ways), len(ways), thing):
        return False
    return all([is_number_on(way, number) for way, number in zip(ways, thing)])


def standing_wrong(yard, thing):
    """Return None if thing is a standing of the yard, otherwise a tuple that says what is wrong first."""
    need_yard(yard)
    ways, persons, _ = yard
    if not is_tuple_of(persons, persons, thing):
        return ("standing",)
    for k, point in enumerate(thing):
        if not is_point(ways, point):
            return ("point", k)
    return None


def is_standing(yard, thing):
    """Return whether thing is a standing of the yard."""
    return standing_wrong(yard, thing) is None


def need_standing(yard, standing):
    """Raise NoYard if yard is not a yard, then NoStanding if standing is not a standing of it."""
    if not is_standing(yard, standing):
        raise NoStanding("this is not a standing of the yard")


def is_leap(persons, posts, thing):
    """Return whether thing is a leap of a walker over another person."""
    if not is_tuple_of(2, 2, thing):
        return False
    if not all([is_whole_in(0, persons - 1, person) for person in thing]):
        return False
    i, j = thing
    return i != j and i not in posts


def leapt(yard, standing, leap):
    """Return the standing after the leap."""
    need_standing(yard, standing)
    ways, persons, posts = yard
    if not is_leap(persons, posts, leap):
        raise NoLeap("this is not a leap of the yard")
    return tuple(points_after(ways, plain_points(standing), [leap]))
