"""Crowds: persons brought together on one point, or a paper that bars."""

from leapfolk.colours import settled_points
from leapfolk.errors import NoPerson, NoYard
from leapfolk.frames import frame_of
from leapfolk.grounds import mover_vectors, ring_vectors
from leapfolk.kinds import is_tuple_of, is_whole, is_whole_in
from leapfolk.moves import plain_points
from leapfolk.papers import colour_bars, few_bars
from leapfolk.wishes import granted_of, leads_to_end
from leapfolk.yards import need_standing, need_yard


def need_walkers(yard):
    """Raise NoYard if yard is not a yard without posts."""
    need_yard(yard)
    if len(yard[2]) != 0:
        raise NoYard("this yard has posts")


def need_group(yard, persons):
    """Raise NoPerson if persons is not a tuple of at least two persons in strictly ascending order."""
    if not isinstance(persons, tuple) or len(persons) < 2:
        raise NoPerson(persons)
    lowest = 0
    for person in persons:
        if not is_whole_in(lowest, yard[1] - 1, person):
            raise NoPerson(person)
        lowest = person + 1


def meeting(yard, standing, persons):
    """Return ("led", row, end), where these persons stand on one point in end, or ("barred", paper)."""
    need_walkers(yard)
    need_standing(yard, standing)
    need_group(yard, persons)
    points = plain_points(standing)
    first = int(persons[0])
    # If they can meet anywhere, they can where the first of them stands.
    told = granted_of(yard, points, [points[first] if person in persons else None for person in range(len(points))])
    if told[0] == "barred" and told[1][0] == "colour":
        return ("barred", ("colour", first) + told[1][1:])
    return told


def colour_of_two_bars(yard, points, persons, paper):
    """Return whether a paper ("colour", i, j, reading) bars."""
    if len(paper) != 4 or not all([is_whole(person) and person in persons for person in paper[1:3]]):
        return False
    _, i, j, reading = paper
    return colour_bars(yard, points, [points[j]] * len(points), ("colour", i, reading))


def crowd_bars(yard, points, persons, thing):
    """Return whether thing, which may be anything, is a paper that bars these persons from one point."""
    if not isinstance(thing, tuple) or len(thing) == 0 or not isinstance(thing[0], str):
        return False
    if thing[0] == "colour":
        return colour_of_two_bars(yard, points, persons, thing)
    many = len(points) - len(persons) + 1
    return thing[0] == "few" and few_bars(yard, many, ring_vectors(yard[0]), mover_vectors(yard, points), thing)


def meets(yard, standing, persons, told):
    """Return whether told, which may be anything, is a correct answer about these persons on one point."""
    need_walkers(yard)
    need_standing(yard, standing)
    need_group(yard, persons)
    points = plain_points(standing)
    if not is_tuple_of(2, 3, told) or not isinstance(told[0], str):
        return False
    if told[0] == "led":
        if len(told) != 3 or not leads_to_end(yard, points, told):
            return False
        end = plain_points(told[2])
        return all([end[person] == end[persons[0]] for person in persons])
    return told[0] == "barred" and len(told) == 2 and crowd_bars(yard, points, persons, told[1])


def greatest_crowd(yard, standing):
    """Return how many persons at most a row can bring to one point."""
    need_walkers(yard)
    need_standing(yard, standing)
    points = plain_points(standing)
    colours = settled_points(yard, points)
    # The others are to make up the span, and there are to be as many of them as makers.
    left = len(points) - len(frame_of(yard, points).makers)
    return min(left, max([colours.count(colour) for colour in colours]))
