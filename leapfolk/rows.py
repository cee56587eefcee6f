"""Rows of runs of leaps: what they are, what they do, and how they are undone."""

from leapfolk.errors import NoRow
from leapfolk.kinds import is_tuple_of, is_whole
from leapfolk.moves import plain_points, points_after_row, repeats_alike
from leapfolk.yards import MOST_PERSONS, is_leap, is_persons, need_standing, need_yard

MOST_LEAPS = 40


def leap_at_fault(persons, posts, leaps):
    """Return the first position in a tuple at which there is no leap, or None."""
    for k, leap in enumerate(leaps):
        if not is_leap(persons, posts, leap):
            return k
    return None


def is_steady(persons, leaps):
    """Return whether leaps of so many persons move each person alike when they are done again."""
    if not is_persons(persons):
        raise NoRow("this is not a number of persons")
    if not is_tuple_of(1, MOST_LEAPS, leaps) or leap_at_fault(persons, (), leaps) is not None:
        raise NoRow("these are not one to forty leaps of the persons")
    return repeats_alike(persons, leaps)


def run_wrong(persons, posts, n, run):
    """Return what is wrong first with run number n, steadiness aside, or None."""
    if not is_tuple_of(2, 2, run) or not is_tuple_of(1, MOST_LEAPS, run[0]):
        return ("run", n)
    leaps, times = run
    k = leap_at_fault(persons, posts, leaps)
    if k is not None:
        return ("leap", n, k)
    if not is_whole(times) or times < 1:
        return ("times", n)
    return None


def runs_wrong(persons, posts, thing):
    """Return what is wrong first with thing as a row of so many persons with these posts, or None."""
    if not isinstance(thing, list):
        return ("row",)
    # Long rows repeat few different leaps, so each answer is worked out once.
    steady = {}
    for n, run in enumerate(thing):
        wrong = run_wrong(persons, posts, n, run)
        if wrong is not None:
            return wrong
        leaps, times = run
        if times > 1:
            if leaps not in steady:
                steady[leaps] = repeats_alike(persons, leaps)
            if not steady[leaps]:
                return ("steady", n)
    return None


def need_runs(persons, posts, row):
    """Raise NoRow if row is not a row of so many persons with these posts."""
    if runs_wrong(persons, posts, row) is not None:
        raise NoRow("this is not a row")


def row_wrong(yard, thing):
    """Return None if thing is a row of the yard, otherwise a tuple that says what is wrong first."""
    need_yard(yard)
    _, persons, posts = yard
    return runs_wrong(persons, posts, thing)


def done(yard, standing, row):
    """Return the standing after the row."""
    need_standing(yard, standing)
    ways, persons, posts = yard
    need_runs(persons, posts, row)
    return tuple(points_after_row(ways, plain_points(standing), row))


def undone(run):
    """Return the run that undoes a run."""
    leaps, times = run
    # A leap undoes itself. int() keeps to plain integers, as plain_points does.
    return (tuple([(int(i), int(j)) for i, j in leaps[::-1]]), int(times))


def row_undone(row):
    """Return the row that undoes a row."""
    return [undone(run) for run in row[::-1]]


def count_of_leaps(row):
    """Return the number of leaps of a row."""
    return sum([len(leaps) * times for leaps, times in row])


def back(row):
    """Return the row that undoes a row of up to six persons, none of them posts."""
    need_runs(MOST_PERSONS, (), row)
    return row_undone(row)


def leaps_in(row):
    """Return the number of leaps of a row of up to six persons, none of them posts."""
    need_runs(MOST_PERSONS, (), row)
    return count_of_leaps(row)
