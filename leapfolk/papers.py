"""Papers that bar one standing from another: how they are judged, and how they are found."""

from leapfolk.arithmetic import determinant, is_all_zero, minors_divisor, same_up_to_sign, vector_between
from leapfolk.frames import frame_of
from leapfolk.grounds import colour_rows, floor_vectors, from_base, kept_rows, mover_vectors, movers_of, posts_of
from leapfolk.kinds import is_tuple_of, is_whole, is_whole_in
from leapfolk.lattices import settle
from leapfolk.portions import apart, completed, part_of, parts_of, reads_zero, table_of
from leapfolk.readings import is_reading
from leapfolk.turns import turn_of


def post_bars(yard, one, other, paper):
    """Return whether a paper ("post", k) bars."""
    if len(paper) != 2 or not is_whole(paper[1]) or paper[1] not in posts_of(yard):
        return False
    return one[paper[1]] != other[paper[1]]


def span_bars(yard, one, other, paper):
    """Return whether a paper ("span", reading) bars."""
    if len(paper) != 2 or not is_reading(yard, paper[1]):
        return False
    reading = paper[1]
    if not reads_zero(reading, floor_vectors(yard, other) + mover_vectors(yard, other)):
        return False
    return not reads_zero(reading, mover_vectors(yard, one))


def colour_bars(yard, one, other, paper):
    """Return whether a paper ("colour", person, reading) bars."""
    persons = yard[1]
    if len(paper) != 3 or not is_whole_in(0, persons - 1, paper[1]) or not is_reading(yard, paper[2]):
        return False
    _, person, reading = paper
    if table_of(2, [reading], from_base(yard, one, list(range(persons)))) is None:
        return False
    return not reads_zero(reading, [vector_between(one[person], other[person])])


def is_count(thing):
    """Return whether thing is a number that determinants may be counted by."""
    return is_whole(thing) and thing >= 2


def is_readings(yard, many, thing):
    """Return whether thing is a tuple of so many readings."""
    return is_tuple_of(many, many, thing) and all([is_reading(yard, reading) for reading in thing])


def counted_determinant(yard, points, count, readings):
    """Return the determinant of count times the readings of the movers' differences, or None.

    It is None if the readings are not 0 of the floor or not integers of the movers' differences, count times.
    """
    floor = floor_vectors(yard, points)
    table = table_of(count, readings, mover_vectors(yard, points))
    if table is None or not all([reads_zero(reading, floor) for reading in readings]):
        return None
    return determinant(table)


def turn_bars(yard, one, other, paper):
    """Return whether a paper ("turn", count, readings) bars."""
    if len(paper) != 3 or not is_count(paper[1]) or not is_readings(yard, len(movers_of(yard)), paper[2]):
        return False
    _, count, readings = paper
    first = counted_determinant(yard, one, count, readings)
    then = counted_determinant(yard, other, count, readings)
    return first is not None and then is not None and not same_up_to_sign(first, then, count)


def few_bars(yard, many, zeros, vectors, paper):
    """Return whether a paper ("few", count, readings) bars with so many readings.

    They are to be 0 of all zeros, and tell of the vectors more than fewer persons can have.
    """
    if len(paper) != 3 or not is_count(paper[1]) or not is_readings(yard, many, paper[2]):
        return False
    _, count, readings = paper
    table = table_of(count, readings, vectors)
    if table is None or not all([reads_zero(reading, zeros) for reading in readings]):
        return False
    return minors_divisor(table, len(vectors), count) == 1


JUDGES = {"post": post_bars, "span": span_bars, "colour": colour_bars, "turn": turn_bars}


def paper_bars(yard, one, other, thing):
    """Return whether thing, which may be anything, is a paper that bars the points one from the points other."""
    if not isinstance(thing, tuple) or len(thing) == 0:
        return False
    if not isinstance(thing[0], str) or thing[0] not in JUDGES:
        return False
    judge = JUDGES[thing[0]]
    return judge(yard, one, other, thing)


def readings_of_rows(rows, counted, count):
    """Return readings that give of the rows what is counted of them, in parts of count: a tuple with one per column."""
    zeros = [(0, 1)] * len(rows[0])
    return tuple([
        parts_of(completed(zeros, rows, [part_of(number, count) for number in column])) for column in zip(*counted)
    ])


def frame_readings(frame, first, count):
    """Return the readings that tell what is counted for the makers from a first one on; count divides all of these."""
    return readings_of_rows(frame.kept, [frame.counted(row)[first:] for row in frame.kept], count)


def turn_paper(yard, one, other):
    """Return a turn paper that bars points of the same kept span and floor, or None."""
    frame = frame_of(yard, one)
    first = turn_of(frame, mover_vectors(yard, one))
    if first is None or first == turn_of(frame, mover_vectors(yard, other)):
        return None
    return ("turn", frame.makers[0], frame_readings(frame, 0, frame.makers[0]))


def few_paper(frame, many):
    """Return a few paper of readings that are 0 of the frame's floor if there are more makers than so many, or None."""
    makers = frame.makers
    first = len(makers) - many - 1
    if first < 0:
        return None
    count = makers[first] if makers[first] != 0 else 2
    return ("few", count, frame_readings(frame, first, count))


def post_paper(yard, one, other):
    """Return a post paper that bars the points one from the points other, or None."""
    for post in posts_of(yard):
        if one[post] != other[post]:
            return ("post", post)
    return None


def colour_paper(yard, one, other):
    """Return a colour paper that bars the points one from the points other, or None."""
    rows = colour_rows(yard, one)
    for person in range(yard[1]):
        vector = vector_between(one[person], other[person])
        if not is_all_zero(settle(rows, vector)):
            return ("colour", person, apart(rows, vector))
    return None


def span_paper(yard, one, other):
    """Return a span paper that bars the points one from the points other, or None."""
    rows = kept_rows(yard, other)
    for vector in mover_vectors(yard, one):
        if not is_all_zero(settle(rows, vector)):
            return ("span", apart(rows, vector))
    return None


def paper_for(yard, one, other):
    """Return a paper that bars the points one from the points other, or None if a row leads there."""
    found = post_paper(yard, one, other)
    if found is None:
        found = colour_paper(yard, one, other)
    if found is None:
        # With equal colours the kept span of the other is contained in that of the one.
        found = span_paper(yard, one, other)
    if found is None:
        found = turn_paper(yard, one, other)
    return found
