"""Promises 4, 5 and 6: yards, standings and leaps."""

import unittest

from leapfolk.errors import NoLeap, NoStanding, NoYard
from leapfolk.yards import leapt, standing_wrong, yard_wrong
from tests.samples import (
    ALL_BUT_ONE, BIG, HUGE, JUNK, LINE, LINE_OF_THREE, MIXED, POSTED, RING, YARDS, generic, leap_by_hand,
    refusal_class, walkers_over,
)


class Yards(unittest.TestCase):

    def test_yards(self):
        for yard in YARDS:
            self.assertIsNone(yard_wrong(yard), yard)

    def test_edges_that_are_yards(self):
        for persons in (2, 3, 4, 5, 6):
            for ways in ((0,), (2,), (0, 0), (2, 0, BIG), (HUGE,)):
                self.assertIsNone(yard_wrong((ways, persons, ())))
                self.assertIsNone(yard_wrong((ways, persons, tuple(range(persons - 1)))))
                self.assertIsNone(yard_wrong((ways, persons, tuple(range(1, persons)))))
                self.assertIsNone(yard_wrong((ways, persons, (persons - 1,))))

    def test_what_is_no_tuple_of_three(self):
        things = [thing for thing in JUNK if not (isinstance(thing, tuple) and len(thing) == 3)]
        things += [[(0,), 2, ()], ((0,), 2), ((0,), 2, (), ()), "abc", {(0,): 1, 2: 3, (): 4}]
        for thing in things:
            self.assertEqual(yard_wrong(thing), ("yard",), thing)

    def test_wrong_ways(self):
        wrong = [None, True, False, 0, 2, "0", "", (), [], [0], (1,), (-1,), (-2,), (0, 1), (0, 0, -5), (True,),
                 (False,), (None,), ("0",), ((0,),), ([0],), (2.0,), (0, 0, 0, 0), (0, 0, 0, None), range(1), (0, True),
                 (-BIG,), {0: 0}, {0}]
        for ways in wrong:
            self.assertEqual(yard_wrong((ways, 2, ())), ("ways",), ways)

    def test_wrong_persons(self):
        for persons in [None, True, False, 0, 1, 7, -2, BIG, -BIG, "2", "", 2.0, (2,), [2], (), [], {}]:
            self.assertEqual(yard_wrong(((0,), persons, ())), ("persons",), persons)

    def test_wrong_posts(self):
        wrong = [None, True, False, 0, 1, "", "0", [], [0], (3,), (-1,), (0, 0), (1, 0), (2, 1), (0, 1, 2), (0, 3),
                 (-1, 0), (True,), (False,), (0, True), (False, 1), (None,), ("0",), ((0,),), (0.0,), (0, None),
                 (0, "1"), range(1), (BIG,), (0, 1, 2, 3, 4, 5), {}, {0}]
        for posts in wrong:
            self.assertEqual(yard_wrong(((0,), 3, posts)), ("posts",), posts)

    def test_first_wrong_part_is_told(self):
        self.assertEqual(yard_wrong(((1,), 7, ())), ("ways",))
        self.assertEqual(yard_wrong(((1,), 2, (5,))), ("ways",))
        self.assertEqual(yard_wrong(((0,), 7, (5, 5))), ("persons",))
        self.assertEqual(yard_wrong(((), 7, None)), ("ways",))
        self.assertEqual(yard_wrong([(1,), 7, None]), ("yard",))

    def test_all_junk_is_answered(self):
        for thing in JUNK:
            self.assertIsInstance(yard_wrong(thing), tuple)
            self.assertEqual(yard_wrong((thing, 9, thing)), ("ways",))
            self.assertEqual(yard_wrong(((0,), thing, None)), ("persons",))
            if thing != ():
                self.assertEqual(yard_wrong(((0,), 2, thing)), ("posts",))


class Standings(unittest.TestCase):

    def test_standings(self):
        for yard in YARDS:
            for seed in range(3):
                self.assertIsNone(standing_wrong(yard, generic(yard, seed)))

    def test_edges_that_are_standings(self):
        self.assertIsNone(standing_wrong(LINE, ((BIG,), (-BIG,))))
        self.assertIsNone(standing_wrong(LINE, ((HUGE,), (-HUGE,))))
        self.assertIsNone(standing_wrong(MIXED, ((-3, 6, 1),) * 6))
        self.assertIsNone(standing_wrong(((2,), 2, ()), ((0,), (1,))))
        self.assertIsNone(standing_wrong(((BIG,), 2, (1,)), ((0,), (BIG - 1,))))

    def test_what_is_no_tuple_of_one_item_per_person(self):
        for thing in JUNK:
            if not (isinstance(thing, tuple) and len(thing) == 4):
                self.assertEqual(standing_wrong(POSTED, thing), ("standing",), thing)
        for thing in ([(0,), (1,)], ((0,),), ((0,), (1,), (2,)), (), "ab", {(0,): 0, (1,): 0}):
            self.assertEqual(standing_wrong(LINE, thing), ("standing",), thing)

    def test_wrong_points(self):
        for point in [None, True, 0, "0", "", (), [], [0], (0, 0), (None,), (True,), (False,), ("0",), ((0,),), (1.0,),
                      range(1), {0: 0}]:
            self.assertEqual(standing_wrong(LINE, (point, (0,))), ("point", 0), point)
            self.assertEqual(standing_wrong(LINE, ((0,), point)), ("point", 1), point)
            self.assertEqual(standing_wrong(RING, ((0,), point)), ("point", 1), point)

    def test_points_off_their_ring(self):
        for number in (-1, 5, 6, BIG, -BIG):
            self.assertEqual(standing_wrong(RING, ((number,), (0,))), ("point", 0))
        self.assertEqual(standing_wrong(((2,), 2, ()), ((1,), (2,))), ("point", 1))
        self.assertEqual(standing_wrong(((0, 3), 2, ()), ((3, 0), (0, 3))), ("point", 1))
        self.assertIsNone(standing_wrong(((0, 3), 2, ()), ((3, 0), (-1, 2))))

    def test_first_wrong_point_is_told(self):
        self.assertEqual(standing_wrong(LINE_OF_THREE, ((0,), None, None)), ("point", 1))
        self.assertEqual(standing_wrong(LINE_OF_THREE, ([0], (0,), None)), ("point", 0))
        self.assertEqual(standing_wrong(LINE_OF_THREE, ((0,), (0,), [0])), ("point", 2))
        self.assertEqual(standing_wrong(ALL_BUT_ONE, ((0,),) * 5 + ((3,),)), ("point", 5))

    def test_yard_comes_first(self):
        for yard in JUNK + [[(0,), 2, ()], ((1,), 2, ()), ((0,), 1, ()), ((0,), 2, (0, 1)), ((0,), 2, [])]:
            for thing in (((0,), (1,)), None, True, "text", []):
                self.assertIs(refusal_class(standing_wrong, yard, thing), NoYard)


class Leaps(unittest.TestCase):

    def test_on_a_line(self):
        self.assertEqual(leapt(LINE, ((1,), (4,)), (0, 1)), ((7,), (4,)))
        self.assertEqual(leapt(LINE, ((1,), (4,)), (1, 0)), ((1,), (-2,)))
        self.assertEqual(leapt(LINE, ((4,), (4,)), (1, 0)), ((4,), (4,)))

    def test_on_rings(self):
        self.assertEqual(leapt(RING, ((1,), (4,)), (0, 1)), ((2,), (4,)))
        self.assertEqual(leapt(RING, ((4,), (1,)), (0, 1)), ((3,), (1,)))
        self.assertEqual(leapt(((2,), 2, ()), ((0,), (1,)), (0, 1)), ((0,), (1,)))
        self.assertEqual(leapt(((6,), 2, ()), ((0,), (3,)), (0, 1)), ((0,), (3,)))

    def test_way_by_way(self):
        self.assertEqual(leapt(((0, 4, 0), 3, ()), ((1, 1, 0), (5, 3, -2), (9, 0, 7)), (2, 1)),
                         ((1, 1, 0), (5, 3, -2), (1, 2, -11)))

    def test_walkers_leap_over_posts(self):
        self.assertEqual(leapt(POSTED, ((1, 1), (2, 0), (0, 0), (9, 3)), (0, 1)), ((3, 3), (2, 0), (0, 0), (9, 3)))

    def test_every_leap_of_every_yard(self):
        for yard in YARDS:
            for seed in range(3):
                standing = generic(yard, seed)
                for leap in walkers_over(yard):
                    after = leapt(yard, standing, leap)
                    self.assertEqual(after, leap_by_hand(yard, standing, leap))
                    self.assertIsNone(standing_wrong(yard, after))
                    self.assertEqual(leapt(yard, after, leap), standing)

    def test_large_numbers(self):
        self.assertEqual(leapt(LINE, ((BIG,), (-BIG,)), (0, 1)), ((-3 * BIG,), (-BIG,)))
        self.assertEqual(leapt(LINE, ((-HUGE,), (HUGE,)), (0, 1)), ((3 * HUGE,), (HUGE,)))
        self.assertEqual(leapt(((BIG,), 2, ()), ((BIG - 1,), (0,)), (0, 1)), ((1,), (0,)))

    def test_posts_do_not_leap(self):
        self.assertIs(refusal_class(leapt, ((0,), 2, (0,)), ((1,), (4,)), (0, 1)), NoLeap)
        for post in (0, 1, 2, 4, 5):
            self.assertIs(refusal_class(leapt, ALL_BUT_ONE, ((0,),) * 6, (post, 3)), NoLeap)

    def test_wrong_leaps(self):
        wrong = JUNK + [(0, 0), (1, 1), (0, 2), (2, 0), (-1, 0), (0, -1), [0, 1], (0,), (0, 1, 1), (True, 0), (0, True),
                        (False, 1), (1, False), (0, None), (None, 1), ("0", "1"), (0, "1"), ((0,), (1,)), (0.0, 1),
                        (0, 1.0), ((0, 1),), ((0, 1), 1), (BIG, 0), (0, -BIG), ([0], 1), (0, [1])]
        for leap in wrong:
            self.assertIs(refusal_class(leapt, LINE, ((0,), (1,)), leap), NoLeap, leap)

    def test_wrong_standings(self):
        wrong = JUNK + [[(0,), (1,)], ([0], [1]), ((0,),), ((0,), (1,), (2,)), ((0,), (True,)), ((0, 0), (1, 1))]
        for standing in wrong:
            self.assertIs(refusal_class(leapt, LINE, standing, (0, 1)), NoStanding, standing)
        self.assertIs(refusal_class(leapt, RING, ((0,), (5,)), (0, 1)), NoStanding)
        self.assertIs(refusal_class(leapt, RING, ((-1,), (0,)), (0, 1)), NoStanding)

    def test_wrong_yards(self):
        for yard in JUNK + [[(0,), 2, ()], ([0], 2, ()), ((0,), 2, []), ((0,), 2), ((1,), 2, ()), ((0,), 7, ())]:
            self.assertIs(refusal_class(leapt, yard, ((0,), (1,)), (0, 1)), NoYard, yard)

    def test_order_of_refusals(self):
        for yard in JUNK:
            self.assertIs(refusal_class(leapt, yard, None, None), NoYard)
            self.assertIs(refusal_class(leapt, yard, ((0,), (1,)), None), NoYard)
            self.assertIs(refusal_class(leapt, yard, None, (0, 1)), NoYard)
        for standing in JUNK:
            self.assertIs(refusal_class(leapt, LINE, standing, (0, 0)), NoStanding)
            self.assertIs(refusal_class(leapt, LINE, standing, None), NoStanding)


if __name__ == "__main__":
    unittest.main()
