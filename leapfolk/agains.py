"""After how many repetitions a row returns a standing to itself."""

from math import lcm

from leapfolk.errors import NoNumber, TooMany
from leapfolk.kinds import is_whole_in
from leapfolk.moves import plain_points, points_after_row, unit_points
from leapfolk.rows import need_runs
from leapfolk.yards import need_standing

MOST_REPETITIONS = 10000


def times_on_line(numbers, row):
    """Return after how many repetitions the numbers on a line are the same again, or None if they never are."""
    points = [(number,) for number in numbers]
    once = points_after_row((0,), points, row)
    if once == points:
        return 1
    return 2 if points_after_row((0,), once, row) == points else None


def applied(table, numbers, size):
    """Return the sums of the table's integers times the numbers, modulo the size."""
    return tuple([sum([many * number for many, number in zip(line, numbers)]) % size for line in table])


def squared(table, size):
    """Return the table that does at once what the table does twice, modulo the size."""
    columns = list(zip(*table))
    return [applied(columns, line, size) for line in table]


def times_on_ring(size, numbers, row, most):
    """Return after how many repetitions, at most so many, the numbers on a ring are the same again, or None."""
    table = points_after_row((size,) * len(numbers), unit_points(len(numbers)), row)
    width, great = 1, table
    while width * width < most:
        width, great = 2 * width, squared(great, size)
    # After the first steps, taken one by one, great ones will do: as soon as one of them arrives where one of the
    # first steps did, the numbers have been the same in between.
    seen = {}
    reached = tuple(numbers)
    for steps in range(width):
        seen[reached] = steps
        reached = applied(table, reached, size)
    total = width
    while reached not in seen and total < most:
        reached = applied(great, reached, size)
        total += width
    if reached not in seen or total - seen[reached] > most:
        return None
    return total - seen[reached]


def times_on_lines(ways, points, row):
    """Return after how many repetitions all lines are the same again, or None if they never are."""
    found = [
        times_on_line([point[place] for point in points], row) for place, way in enumerate(ways) if way == 0
    ]
    if None in found:
        return None
    return max([1] + found)


def again(yard, standing, row, *, most=10000):
    """Return after how many repetitions the row leads the standing to itself, or None if it never does."""
    need_standing(yard, standing)
    ways, persons, posts = yard
    need_runs(persons, posts, row)
    if not is_whole_in(1, MOST_REPETITIONS, most):
        raise NoNumber("this is no number of repetitions that is asked for")
    points = plain_points(standing)
    total = times_on_lines(ways, points, row)
    if total is None:
        return None
    for place, way in enumerate(ways):
        if way != 0:
            times = times_on_ring(int(way), [point[place] for point in points], row, most)
            if times is None:
                raise TooMany(most)
            total = lcm(total, times)
    if total > most:
        raise TooMany(most)
    return total
