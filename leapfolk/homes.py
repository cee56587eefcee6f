"""The home of a standing, and a row that leads there."""

from leapfolk.arithmetic import centred, inverse_within, less_times, vector_between, within
from leapfolk.frames import frame_of
from leapfolk.grounds import (
    base_of, colour_rows, floor_rows, floor_vectors, mover_vectors, movers_of, other_posts_of,
)
from leapfolk.lattices import reduced_rows, settle
from leapfolk.lines import Lines, leaps_moving, run_of
from leapfolk.moves import plain_points, points_after_row
from leapfolk.yards import need_standing


def wanted_vectors(yard, points, frame, lines):
    """Return the movers' differences from the base in the home: what their lines stand for, settled by the floor."""
    floor = floor_rows(yard, points)
    wanted = []
    for line in range(len(lines.movers)):
        vector = [0] * len(yard[0])
        for times, made in zip(lines.whole(line), frame.vectors):
            vector = less_times(vector, -times, made)
        wanted.append(settle(floor, vector))
    return wanted


def row_over_posts(yard, points, wanted):
    """Return a row that moves each mover by a vector of the floor to the wanted difference from the base."""
    width, base, posts = len(yard[0]), base_of(yard), other_posts_of(yard)
    # Each vector is followed by a number per post, so that the rows carry how they are made of the posts' vectors.
    made = [
        vector + [1 if place == number else 0 for place in range(len(posts))]
        for number, vector in enumerate(floor_vectors(yard, points))
    ]
    rows = reduced_rows(width, made)
    row = []
    for mover, now, then in zip(movers_of(yard), mover_vectors(yard, points), wanted):
        left = settle(rows, vector_between(now, then) + [0] * len(posts))
        for post, times in zip(posts, left[width:]):
            row += run_of(leaps_moving([mover], [(post, 1)], base), -times)
    return row


def half_within(number, modulus):
    """Return what twice gives the number modulo the modulus, which is even only if the number is."""
    if number % 2 == 0:
        return number // 2
    return (number + modulus) // 2


def left_over(frame, counted, times, pivot):
    """Return what is left of counted multiples of the frame's vectors after so many times a pivot is taken away."""
    return [within(number, maker) for number, maker in zip(less_times(counted, times, pivot), frame.makers)]


def row_of_all(yard, points, frame, lines):
    """Return a row that moves all persons alike, until the base's point is settled by the lattice of colours."""
    persons, start = yard[1], points[lines.base]
    path = vector_between(start, settle(colour_rows(yard, points), start))
    # All move by twice what is left, which is made of the pivots from the last to the first.
    left = [half_within(number, maker) for number, maker in zip(frame.counted(path), frame.makers)]
    group = [lines.base] + [person for person in range(persons) if person != lines.base]
    row = []
    for column in range(len(left) - 1, -1, -1):
        pivot = lines.pivots[column]
        numbers, last = lines.numbers[pivot], frame.makers[column]
        times = centred(left[column] * inverse_within(numbers[column], last), last)
        left = left_over(frame, left, times, numbers)
        row += run_of(leaps_moving(group, lines.mixed(lines.mixes[pivot]), lines.base), times)
    return row


def home_of(yard, points):
    """Return the points of the home and a row that leads from the points to it."""
    ways, _, posts = yard
    frame = frame_of(yard, points)
    numbers = [frame.counted(vector) for vector in mover_vectors(yard, points)]
    lines = Lines(base_of(yard), movers_of(yard), frame.makers, numbers)
    lines.bring_all()
    reached = points_after_row(ways, points, lines.runs)
    if posts:
        wanted = wanted_vectors(yard, points, frame, lines)
        last = row_over_posts(yard, reached, wanted)
    else:
        last = row_of_all(yard, reached, frame, lines)
    return points_after_row(ways, reached, last), lines.runs + last


def home(yard, standing):
    """Return the home that all standings share that rows lead to from one another, and a row that leads there."""
    need_standing(yard, standing)
    points, row = home_of(yard, plain_points(standing))
    return tuple(points), row
