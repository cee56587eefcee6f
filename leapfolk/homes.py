"""The home of a standing, and a row that leads there."""

from leapfolk.arithmetic import centred, inverse_within, less_times, vector_between, within
from leapfolk.frames import frame_of
from leapfolk.grounds import base_of, colour_rows, floor_vectors, mover_vectors, movers_of, other_posts_of
from leapfolk.lattices import reduced_rows, settle
from leapfolk.lines import Lines, leaps_moving, run_of
from leapfolk.moves import plain_points, points_after_row
from leapfolk.yards import need_standing


def row_over_posts(yard, points):
    """Return a row that moves each mover until its difference from the base is settled by the floor."""
    width, base, posts = len(yard[0]), base_of(yard), other_posts_of(yard)
    # Each vector is followed by a number per post, so that the rows carry how they are made of the posts' vectors.
    made = [
        generator + [1 if place == number else 0 for place in range(len(posts))]
        for number, generator in enumerate(floor_vectors(yard, points))
    ]
    rows = reduced_rows(width, made)
    row = []
    for mover, vector in zip(movers_of(yard), mover_vectors(yard, points)):
        added = settle(rows, vector + [0] * len(posts))[width:]
        for post, times in zip(posts, added):
            row += run_of(leaps_moving([mover], [(post, 1)], base), times)
    return row


def half_within(number, modulus):
    """Return what twice gives the number modulo the modulus, which is even only if the number is."""
    if number % 2 == 0:
        return number // 2
    return (number + modulus) // 2


def left_over(frame, counted, times, pivot):
    """Return what is left of what was counted for the makers after so many times a pivot is taken away."""
    return [within(number, maker) for number, maker in zip(less_times(counted, times, pivot), frame.makers)]


def row_of_all(yard, points, frame, lines):
    """Return a row that moves all persons alike, until the base's point is settled by the lattice of colours."""
    persons, start = yard[1], points[lines.base]
    path = vector_between(start, settle(colour_rows(yard, points), start))
    # All move by twice what is left, which is made of the pivots from the last to the first.
    left = [half_within(number, maker) for number, maker in zip(frame.counted(path), frame.makers)]
    group = [lines.base] + [person for person in range(persons) if person != lines.base]
    row = []
    for column in range(len(left) - 1, -1, -1):
        pivot = lines.pivots[column]
        numbers, last = lines.numbers[pivot], frame.makers[column]
        times = centred(left[column] * inverse_within(numbers[column], last), last)
        left = left_over(frame, left, times, numbers)
        row += run_of(leaps_moving(group, lines.mixed(lines.mixes[pivot]), lines.base), times)
    return row


def home_and_lines(yard, points):
    """Return the points of the home, a row that leads from the points to it, and the lines brought all the way down."""
    ways, _, posts = yard
    frame = frame_of(yard, points)
    numbers = [frame.counted(vector) for vector in mover_vectors(yard, points)]
    lines = Lines(base_of(yard), movers_of(yard), frame.makers, numbers)
    lines.bring_all()
    reached = points_after_row(ways, points, lines.runs)
    # What the lines stand for is the same for the whole class, and so are the points after this last part.
    last = row_over_posts(yard, reached) if posts else row_of_all(yard, reached, frame, lines)
    return points_after_row(ways, reached, last), lines.runs + last, lines


def home_of(yard, points):
    """Return the points of the home and a row that leads from the points to it."""
    end, row, _ = home_and_lines(yard, points)
    return end, row


def home(yard, standing):
    """Return the home that all standings share that rows lead to from one another, and a row that leads there."""
    need_standing(yard, standing)
    points, row = home_of(yard, plain_points(standing))
    return tuple(points), row
