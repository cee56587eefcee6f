"""Promise 12: colours."""

import random
import unittest

from leapfolk.colours import colour_points, same_colour
from leapfolk.errors import NoPerson, NoStanding, NoYard
from leapfolk.rows import done
from leapfolk.spans import lies_in, reduced, settled
from leapfolk.yards import standing_wrong
from tests.samples import (
    BIG, JUNK, LINE, LINE_OF_THREE, POSTED, RING, YARDS, Unchanged, generic, is_plain, leap_by_hand, minus,
    random_row, refusal, refusal_class, rings_by_hand, standings_of, walkers_over,
)


def rows_by_hand(yard, standing):
    """Return the reduced rows of the lattice that tells colours apart."""
    twice = [tuple(2 * number for number in minus(point, standing[0])) for point in standing]
    return reduced(len(yard[0]), twice + rings_by_hand(yard))


class Colours(unittest.TestCase):

    def check(self, yard, standing):
        with Unchanged(self, yard, standing):
            points = colour_points(yard, standing)
        self.assertIs(type(points), tuple)
        self.assertTrue(is_plain(points))
        self.assertEqual(len(points), yard[1])
        self.assertIsNone(standing_wrong(yard, points))
        rows = rows_by_hand(yard, standing)
        self.assertEqual(points, tuple(settled(rows, point) for point in standing))
        for i in range(yard[1]):
            for j in range(yard[1]):
                found = same_colour(yard, standing, i, j)
                self.assertIs(found, lies_in(rows, minus(standing[i], standing[j])))
                self.assertIs(found, points[i] == points[j])

    def test_ordinary_answers(self):
        self.assertEqual(colour_points(LINE_OF_THREE, ((0,), (3,), (6,))), ((0,), (3,), (0,)))
        self.assertIs(same_colour(LINE_OF_THREE, ((0,), (3,), (6,)), 0, 2), True)
        self.assertIs(same_colour(LINE_OF_THREE, ((0,), (3,), (6,)), 0, 1), False)
        self.assertIs(same_colour(LINE_OF_THREE, ((0,), (3,), (6,)), 1, 1), True)
        self.assertEqual(colour_points(LINE_OF_THREE, ((-1,), (3,), (7,))), ((7,), (3,), (7,)))
        # On a ring with an odd number of points all differences are twice some others.
        self.assertEqual(colour_points(RING, ((1,), (4,))), ((0,), (0,)))
        self.assertIs(same_colour(RING, ((1,), (4,)), 0, 1), True)
        self.assertEqual(colour_points(((6,), 2, ()), ((1,), (4,))), ((1,), (4,)))
        self.assertEqual(colour_points(((6,), 2, ()), ((1,), (3,))), ((1,), (1,)))

    def test_posts_have_colours_too(self):
        yard = ((0,), 3, (0, 2))
        self.assertEqual(colour_points(yard, ((0,), (1,), (3,))), ((0,), (1,), (1,)))
        self.assertIs(same_colour(yard, ((0,), (1,), (3,)), 2, 1), True)

    def test_all_on_one_point(self):
        for yard in YARDS:
            standing = (generic(yard)[0],) * yard[1]
            self.assertEqual(colour_points(yard, standing), standing)
            self.assertIs(same_colour(yard, standing, 0, yard[1] - 1), True)

    def test_ordinary_standings(self):
        for yard in YARDS + [((6, 4), 4, ()), ((12, 0), 5, (1, 3)), ((4, 6, 0), 3, ())]:
            for seed in range(6):
                self.check(yard, generic(yard, seed, [2, 9, BIG][seed % 3]))

    def test_small_rings(self):
        for yard in [((4,), 3, ()), ((6,), 3, (1,)), ((2, 4), 2, ()), ((3, 2), 2, (0,))]:
            for standing in standings_of(yard):
                self.check(yard, standing)

    def test_leaps_change_no_colour(self):
        source = random.Random(1)
        for yard in YARDS:
            standing = generic(yard, 3, 30)
            for leap in walkers_over(yard):
                self.assertEqual(colour_points(yard, leap_by_hand(yard, standing, leap)), colour_points(yard, standing))
            far = done(yard, standing, random_row(yard, source, 5, 10 ** 600))
            self.assertEqual(colour_points(yard, far), colour_points(yard, standing))
            self.check(yard, far)

    def test_no_person(self):
        wrong = [-1, 3, 4, BIG, -BIG, True, False, None, "0", "", 0.0, (0,), [0], (), [], {}]
        for thing in JUNK + wrong:
            if type(thing) is int and 0 <= thing < 3:
                continue
            for i, j in [(thing, 0), (0, thing), (thing, None), (thing, thing), (2, thing)]:
                error = refusal(same_colour, LINE_OF_THREE, ((0,), (3,), (6,)), i, j)
                self.assertIs(type(error), NoPerson, thing)
                self.assertIs(error.person, thing)
        self.assertEqual(refusal(same_colour, LINE_OF_THREE, ((0,), (3,), (6,)), 0, 3).person, 3)
        self.assertEqual(refusal(same_colour, LINE_OF_THREE, ((0,), (3,), (6,)), 7, -1).person, 7)
        self.assertIs(refusal_class(same_colour, LINE, ((0,), (3,)), 2, 0), NoPerson)

    def test_wrong_standings_and_yards(self):
        for thing in JUNK + [[(0,), (1,)], ((0,),), ((0,), [1]), ((0,), (True,)), ((0,), (1,), (2,))]:
            self.assertIs(refusal_class(colour_points, LINE, thing), NoStanding, thing)
            self.assertIs(refusal_class(colour_points, thing, ((0,), (1,))), NoYard, thing)
            self.assertIs(refusal_class(colour_points, thing, thing), NoYard, thing)
            for i, j in [(0, 1), (None, 1), (0, 7), (thing, thing)]:
                self.assertIs(refusal_class(same_colour, LINE, thing, i, j), NoStanding, thing)
                self.assertIs(refusal_class(same_colour, thing, ((0,), (1,)), i, j), NoYard, thing)
                self.assertIs(refusal_class(same_colour, thing, thing, i, j), NoYard, thing)
        self.assertIs(refusal_class(colour_points, RING, ((0,), (5,))), NoStanding)
        self.assertIs(refusal_class(same_colour, RING, ((0,), (-1,)), 0, 9), NoStanding)
        self.assertIs(refusal_class(colour_points, POSTED, generic(POSTED)[:3]), NoStanding)


if __name__ == "__main__":
    unittest.main()
