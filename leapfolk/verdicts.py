"""The verdict on two standings: a row that leads from the one to the other, or a paper that bars."""

from leapfolk.homes import home_of
from leapfolk.kinds import is_tuple_of
from leapfolk.moves import plain_points, points_after_row
from leapfolk.papers import paper_bars, paper_for
from leapfolk.rows import row_undone, runs_wrong
from leapfolk.yards import need_standing


def row_between(yard, one, other):
    """Return a row that leads from the points one to the points other, which have the same home."""
    if one == other:
        return []
    _, there = home_of(yard, one)
    _, back_again = home_of(yard, other)
    return there + row_undone(back_again)


def verdict(yard, one, other):
    """Return ("led", row) or ("barred", paper), whichever holds."""
    need_standing(yard, one)
    need_standing(yard, other)
    start, end = plain_points(one), plain_points(other)
    paper = paper_for(yard, start, end)
    if paper is not None:
        return ("barred", paper)
    return ("led", row_between(yard, start, end))


def row_leads(yard, start, end, thing):
    """Return whether thing, which may be anything, is a row that leads from the points start to the points end."""
    ways, persons, posts = yard
    if runs_wrong(persons, posts, thing) is not None:
        return False
    return points_after_row(ways, start, thing) == end


def shows(yard, one, other, told):
    """Return whether told, which may be anything, is a correct verdict on the two standings."""
    need_standing(yard, one)
    need_standing(yard, other)
    start, end = plain_points(one), plain_points(other)
    if not is_tuple_of(2, 2, told) or not isinstance(told[0], str):
        return False
    word, thing = told
    if word == "led":
        return row_leads(yard, start, end, thing)
    return word == "barred" and paper_bars(yard, start, end, thing)
