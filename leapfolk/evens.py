"""Rows with an even or an odd number of leaps from one standing to another, and papers that bar them."""

from leapfolk.arithmetic import determinant
from leapfolk.errors import NoNumber
from leapfolk.frames import frame_of
from leapfolk.grounds import mover_vectors, movers_of
from leapfolk.homes import home_and_lines, home_of, row_over_posts
from leapfolk.kinds import is_tuple_of
from leapfolk.moves import plain_points, points_after_row
from leapfolk.papers import counted_determinant, frame_readings, is_count, is_readings, paper_bars, paper_for
from leapfolk.rows import count_of_leaps, row_undone
from leapfolk.verdicts import row_leads
from leapfolk.yards import need_standing


def need_truth(odd):
    """Raise NoNumber if odd is neither True nor False."""
    if not isinstance(odd, bool):
        raise NoNumber("this is neither True nor False")


def signs_bar(yard, one, other, odd, paper):
    """Return whether a paper ("signs", count, readings) bars."""
    if len(paper) != 3 or not is_count(paper[1]) or not is_readings(yard, len(movers_of(yard)), paper[2]):
        return False
    _, count, readings = paper
    first = counted_determinant(yard, one, count, readings)
    then = counted_determinant(yard, other, count, readings)
    # Of count 2 each number is its own negative.
    if first is None or then is None or 2 * first % count == 0:
        return False
    return (first - then if odd else first + then) % count == 0


def signs_paper(yard, one, other, odd):
    """Return a paper of signs for points that a row leads from one to another, or None if such a row exists."""
    frame = frame_of(yard, one)
    if len(frame.makers) != len(movers_of(yard)) or frame.makers[0] == 2:
        return None
    count = frame.makers[0] if frame.makers[0] != 0 else 3
    first, then = [
        determinant([frame.counted(vector) for vector in mover_vectors(yard, points)]) for points in (one, other)
    ]
    # Every leap changes the sign.
    if ((first - then) % count == 0) != odd:
        return None
    return ("signs", count, frame_readings(frame, 0, count))


def odd_loop(yard, end, lines):
    """Return a row with an odd number of leaps that leads from a home, with its lines, back to it.

    There are more lines than makers, or the first maker is 2.
    """
    pivots = list(lines.pivots.values())
    idle = [line for line in range(len(lines.movers)) if line not in pivots]
    before = len(lines.runs)
    # Without the pivots that it holds, the line is its own negative: it counts nothing, or 1 for the first maker.
    lines.turn(idle[0] if idle else lines.pivots[0])
    turned = lines.runs[before:]
    # All that the mover may have been moved by lies in the floor.
    return turned + row_over_posts(yard, points_after_row(yard[0], end, turned))


def row_of_parity(yard, start, end, odd):
    """Return a row with an odd or an even number of leaps that leads from points to others."""
    if start == end and not odd:
        return []
    middle, there, lines = home_and_lines(yard, start)
    _, back_again = home_of(yard, end)
    row = there + row_undone(back_again)
    if (count_of_leaps(row) % 2 == 1) == odd:
        return row
    return there + odd_loop(yard, middle, lines) + row_undone(back_again)


def led_so(yard, one, other, odd):
    """Return ("led", row), where the row has an odd (even) number of leaps, or ("barred", paper)."""
    need_standing(yard, one)
    need_standing(yard, other)
    need_truth(odd)
    start, end = plain_points(one), plain_points(other)
    paper = paper_for(yard, start, end)
    if paper is None:
        paper = signs_paper(yard, start, end, odd)
    if paper is not None:
        return ("barred", paper)
    return ("led", row_of_parity(yard, start, end, odd))


def shows_so(yard, one, other, odd, told):
    """Return whether told, which may be anything, is a correct answer for rows of an odd (even) number of leaps."""
    need_standing(yard, one)
    need_standing(yard, other)
    need_truth(odd)
    start, end = plain_points(one), plain_points(other)
    if not is_tuple_of(2, 2, told) or not isinstance(told[0], str):
        return False
    word, thing = told
    if word == "led":
        return row_leads(yard, start, end, thing) and (count_of_leaps(thing) % 2 == 1) == odd
    if word != "barred" or not isinstance(thing, tuple) or len(thing) == 0 or not isinstance(thing[0], str):
        return False
    if thing[0] == "signs":
        return signs_bar(yard, start, end, odd, thing)
    return paper_bars(yard, start, end, thing)
