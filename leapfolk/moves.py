"""What leaps do to points, once and many times over; all arguments are taken to be valid."""


def onto_way(way, number):
    """Return the place on the way that the number stands for."""
    if way == 0:
        return number
    return number % way


def beyond(ways, start, over):
    """Return the point as far beyond the point over as start is before it."""
    return tuple([onto_way(way, 2 * middle - number) for way, number, middle in zip(ways, start, over)])


def moved_on(ways, start, end, times):
    """Return the point reached from start by so many steps that are each as from start to end."""
    return tuple([onto_way(way, low + times * (high - low)) for way, low, high in zip(ways, start, end)])


def plain_point(point):
    """Return the point as a plain tuple of plain integers."""
    # Integers and tuples of kinds derived from int and tuple are accepted, but never returned.
    return tuple([int(number) for number in point])


def plain_points(standing):
    """Return a list of the standing's points, as plain tuples of plain integers."""
    return [plain_point(point) for point in standing]


def unit_points(persons):
    """Return one point per person: 1 on the way of the person's own number and 0 on the others."""
    return [tuple([1 if way == person else 0 for way in range(persons)]) for person in range(persons)]


def vectors_between(starts, ends):
    """Return the vectors from the points of one list to those of another, on lines."""
    return [[high - low for low, high in zip(start, end)] for start, end in zip(starts, ends)]


def points_after(ways, points, leaps):
    """Return a new list of the points after the leaps, done one after the other."""
    moved = list(points)
    for i, j in leaps:
        moved[i] = beyond(ways, moved[i], moved[j])
    return moved


def points_after_run(ways, points, run):
    """Return a new list of the points after a run."""
    leaps, times = run
    once = points_after(ways, points, leaps)
    if times == 1:
        return once
    # Steady leaps move a person by the same vector each time, so that all times are done at once.
    return [moved_on(ways, start, end, times) for start, end in zip(points, once)]


def points_after_row(ways, points, row):
    """Return a new list of the points after a row."""
    moved = list(points)
    for run in row:
        moved = points_after_run(ways, moved, run)
    return moved


def repeats_alike(persons, leaps):
    """Return whether leaps of so many persons are steady."""
    # After leaps each person stands at a sum of multiples of all places before them. The unit points show
    # these multiples, so what holds for them as they stand on lines holds for every standing on every ground.
    lines = (0,) * persons
    start = unit_points(persons)
    once = points_after(lines, start, leaps)
    twice = points_after(lines, once, leaps)
    return vectors_between(start, once) == vectors_between(once, twice)
