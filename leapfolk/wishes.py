"""Wishes of some persons: a row to a standing that grants them, or a paper that bars."""

from leapfolk.aim_papers import aim_bars, misfit_paper, paper_for_aim
from leapfolk.aims import Aim, Opening, end_of_aim
from leapfolk.errors import NoWishes
from leapfolk.kinds import is_tuple_of
from leapfolk.moves import plain_point, plain_points
from leapfolk.verdicts import row_between, row_leads
from leapfolk.yards import is_point, is_standing, need_standing, need_yard


def wishes_wrong(yard, thing):
    """Return None if thing is wishes of the yard, otherwise a tuple that says what is wrong first."""
    need_yard(yard)
    ways, persons, _ = yard
    if not is_tuple_of(persons, persons, thing):
        return ("wishes",)
    for k, wish in enumerate(thing):
        if wish is not None and not is_point(ways, wish):
            return ("point", k)
    return None


def need_wishes(yard, wishes):
    """Raise NoWishes if wishes are not wishes of the yard."""
    if wishes_wrong(yard, wishes) is not None:
        raise NoWishes("these are not wishes of the yard")


def plain_wishes(wishes):
    """Return a list of the wishes, as plain tuples of plain integers and None."""
    return [None if wish is None else plain_point(wish) for wish in wishes]


def asked_points(points, wishes):
    """Return the wished points, and for persons without one those where they stand."""
    return [point if wish is None else wish for point, wish in zip(points, wishes)]


def granted_of(yard, points, wishes):
    """Return ("led", row, end) or ("barred", paper)."""
    asked = asked_points(points, wishes)
    if asked == points:
        return ("led", [], tuple(points))
    paper = misfit_paper(yard, points, asked)
    if paper is not None:
        return ("barred", paper)
    aim = Aim(yard, points, wishes)
    opening = Opening(yard, points, aim)
    paper = paper_for_aim(yard, aim, opening)
    if paper is not None:
        return ("barred", paper)
    end = end_of_aim(yard, points, wishes, aim, opening)
    return ("led", row_between(yard, points, end), tuple(end))


def granted(yard, standing, wishes):
    """Return ("led", row, end), where end grants the wishes, or ("barred", paper)."""
    need_standing(yard, standing)
    need_wishes(yard, wishes)
    return granted_of(yard, plain_points(standing), plain_wishes(wishes))


def leads_to_end(yard, points, told):
    """Return whether told, a tuple of three items, has a row that leads to its end, a standing."""
    _, row, end = told
    return is_standing(yard, end) and row_leads(yard, points, plain_points(end), row)


def grants(yard, standing, wishes, told):
    """Return whether told, which may be anything, is a correct answer to the wishes."""
    need_standing(yard, standing)
    need_wishes(yard, wishes)
    points, wished = plain_points(standing), plain_wishes(wishes)
    if not is_tuple_of(2, 3, told) or not isinstance(told[0], str):
        return False
    if told[0] == "led":
        if len(told) != 3 or not leads_to_end(yard, points, told):
            return False
        end = plain_points(told[2])
        return asked_points(end, wished) == end
    if told[0] != "barred" or len(told) != 2 or (not yard[2] and wished == [None] * len(wished)):
        return False
    return aim_bars(yard, points, asked_points(points, wished), Aim(yard, points, wished), told[1])
