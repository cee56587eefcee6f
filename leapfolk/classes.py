"""All classes of standings on small rings, counted and numbered."""

from leapfolk.errors import NoNumber, NoStanding, NoYard
from leapfolk.kinds import is_whole_in
from leapfolk.moves import beyond, plain_point, plain_points
from leapfolk.yards import LEAST_PERSONS, is_standing, is_ways

MOST_IN_CLASSES = 4
MOST_STANDINGS = 4096

# The last classes that were asked for, as (ways, persons, numbers of all standings, first standings of all classes).
LAST = None


def need_rings(ways, persons):
    """Raise NoYard if these are not rings and persons with few enough standings."""
    if not is_ways(ways) or 0 in ways or not is_whole_in(LEAST_PERSONS, MOST_IN_CLASSES, persons):
        raise NoYard("these are not rings and two to four persons")
    size = 1
    for _ in range(persons):
        for way in ways:
            size *= way
    if size > MOST_STANDINGS:
        raise NoYard("there are too many standings")


def points_of_rings(ways):
    """Return a list of all points of the rings."""
    points = [()]
    for way in ways:
        points = [point + (number,) for point in points for number in range(way)]
    return points


def place_of(ways, point):
    """Return the place of a point in the list of all points."""
    place = 0
    for way, number in zip(ways, point):
        place = place * way + number
    return place


def code_of(many, places):
    """Return the one number that stands for the places of all persons among so many points."""
    code = 0
    for place in places:
        code = code * many + place
    return code


def weights_of(many, persons):
    """Return how much each person's place counts in the number that stands for all places."""
    weights = [1]
    for _ in range(persons - 1):
        weights = [weights[0] * many] + weights
    return weights


def codes_after(code, over, weights):
    """Return what stands for the places after each leap."""
    places = [code // weight % len(over) for weight in weights]
    # A person who leaps over itself stays.
    return [code + (over[here][there] - here) * weight for here, weight in zip(places, weights) for there in places]


def fill_class(numbers, start, number, over, weights):
    """Give the number to all that leaps lead to from a start."""
    numbers[start] = number
    waiting = [start]
    while waiting:
        reached = codes_after(waiting.pop(), over, weights)
        for code in reached:
            if numbers[code] is None:
                numbers[code] = number
                waiting.append(code)


def classes_found(ways, persons):
    """Return the number of each standing's class, and the first standing of each class."""
    points = points_of_rings(ways)
    over = [[place_of(ways, beyond(ways, start, middle)) for middle in points] for start in points]
    weights = weights_of(len(points), persons)
    numbers = [None] * (weights[0] * len(points))
    firsts = []
    for code in range(len(numbers)):
        if numbers[code] is None:
            fill_class(numbers, code, len(firsts), over, weights)
            firsts.append(code)
    return tuple(numbers), tuple(firsts)


def classes_of(ways, persons):
    """Return the number of each standing's class, and the first standing of each class."""
    global LAST
    # To ask for one class after the other takes no longer than to ask for one.
    if LAST is None or LAST[:2] != (ways, persons):
        LAST = (ways, persons, classes_found(ways, persons))
    return LAST[2]


def class_count(ways, persons):
    """Return the number of classes."""
    need_rings(ways, persons)
    _, firsts = classes_of(plain_point(ways), int(persons))
    return len(firsts)


def class_of(ways, standing):
    """Return the number of a standing's class."""
    if not isinstance(standing, tuple):
        raise NoYard("this standing has no number of persons")
    persons = len(standing)
    need_rings(ways, persons)
    if not is_standing((ways, persons, ()), standing):
        raise NoStanding("this is not a standing on the rings")
    rings = plain_point(ways)
    numbers, _ = classes_of(rings, persons)
    places = [place_of(rings, point) for point in plain_points(standing)]
    return numbers[code_of(len(points_of_rings(rings)), places)]


def class_home(ways, persons, number):
    """Return a standing of the class with this number."""
    need_rings(ways, persons)
    rings = plain_point(ways)
    _, firsts = classes_of(rings, int(persons))
    if not is_whole_in(0, len(firsts) - 1, number):
        raise NoNumber("this is not the number of a class")
    points = points_of_rings(rings)
    return tuple([
        points[firsts[number] // weight % len(points)] for weight in weights_of(len(points), persons)
    ])
