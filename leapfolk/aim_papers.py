"""Papers that bar wishes: how they are judged, and how they are found."""

from leapfolk.arithmetic import determinant, less_times, minors_divisor, same_up_to_sign, sum_of_times
from leapfolk.frames import Frame
from leapfolk.kinds import is_tuple_of
from leapfolk.papers import (
    colour_bars, colour_paper, few_bars, few_paper, is_count, is_readings, post_bars, post_paper, readings_of_rows,
)
from leapfolk.portions import completed, products_of, reads_zero, table_of
from leapfolk.readings import is_fraction


def is_slope(yard, thing):
    """Return whether thing is a tuple with one fraction per way, 0 on ring ways."""
    ways = yard[0]
    if not is_tuple_of(len(ways), len(ways), thing) or not all([is_fraction(fraction) for fraction in thing]):
        return False
    return all([way == 0 or fraction[0] == 0 for way, fraction in zip(ways, thing)])


def are_slopes(yard, many, thing):
    """Return whether thing is a tuple of so many slopes."""
    return is_tuple_of(many, many, thing) and all([is_slope(yard, slope) for slope in thing])


def products_of_slopes(aim, slopes):
    """Return the products of the slopes with the movers' differences, or None if the slopes are not as asked for."""
    # What is 0 of twice a vector is 0 of it, so that the floor may stand for the posts and the ring vectors.
    zeros = products_of(slopes, aim.floor + aim.wanted)
    products = products_of(slopes, aim.vectors)
    if zeros is None or products is None or any([number != 0 for line in zeros for number in line]):
        return None
    return products if minors_divisor(products, len(aim.vectors), 0) == 1 else None


def turn_of_aim_bars(yard, aim, paper):
    """Return whether a paper ("turn", count, readings, slopes) bars."""
    if len(paper) != 4 or not is_count(paper[1]) or not is_readings(yard, len(aim.bound), paper[2]):
        return False
    _, count, readings, slopes = paper
    if not are_slopes(yard, len(aim.free), slopes):
        return False
    products = products_of_slopes(aim, slopes)
    table, wanted = table_of(count, readings, aim.vectors), table_of(count, readings, aim.wanted)
    if products is None or table is None or wanted is None:
        return False
    if not all([reads_zero(reading, aim.floor) for reading in readings]):
        return False
    return not same_up_to_sign(determinant(products + table), determinant(wanted), count)


def aim_bars(yard, points, asked, aim, thing):
    """Return whether thing, which may be anything, is a paper that bars the aim.

    The points asked are the wished ones, and those where persons stand for whom nothing is wished.
    """
    if not isinstance(thing, tuple) or len(thing) == 0 or not isinstance(thing[0], str):
        return False
    if thing[0] == "post":
        return post_bars(yard, points, asked, thing)
    if thing[0] == "colour":
        return colour_bars(yard, points, asked, thing)
    if thing[0] == "few":
        return few_bars(yard, len(aim.free) + 1, aim.floor + aim.wanted, aim.vectors, thing)
    return thing[0] == "turn" and turn_of_aim_bars(yard, aim, thing)


def slopes_of(frame):
    """Return the slopes that give of each vector what is counted of it; all makers of the frame are 0."""
    zeros = [(0, 1)] * len(frame.kept[0])
    counted = [frame.counted(row) for row in frame.kept]
    return tuple([
        completed(zeros, frame.kept, [(number, 1) for number in column]) for column in zip(*counted)
    ])


def turn_of_aim_paper(aim, opening):
    """Return a turn paper of an aim that leaves nothing open that can change the turn."""
    rest = opening.rest
    inner = Frame(rest.floor, opening.whole.floor)
    units = rest.units()
    # The readings are 0 of the units, and tell of what is left what is counted in the wishes.
    counted = []
    for row in rest.kept:
        taken = sum_of_times(units, rest.counted(row), len(row))
        counted.append(inner.counted(less_times(row, 1, taken)))
    count = opening.whole.makers[0]
    return ("turn", count, readings_of_rows(rest.kept, counted, count), slopes_of(rest))


def misfit_paper(yard, points, asked):
    """Return a paper that bars what is asked because of a post or a colour, or None."""
    found = post_paper(yard, points, asked)
    return colour_paper(yard, points, asked) if found is None else found


def paper_for_aim(yard, aim, opening):
    """Return a paper that bars an aim whose posts and colours are right, or None if a row leads to it."""
    found = few_paper(opening.rest, len(aim.free))
    if found is None and opening.has_turn(aim) and opening.is_rigid(aim):
        paper = turn_of_aim_paper(aim, opening)
        found = paper if turn_of_aim_bars(yard, aim, paper) else None
    return found
