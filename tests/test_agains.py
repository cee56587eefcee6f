"""Promises 3 and 22: after how many repetitions a row returns a standing to itself."""

import itertools
import math
import random
import time
import unittest

from leapfolk.agains import again
from leapfolk.errors import NoNumber, NoRow, NoStanding, NoYard, TooMany
from leapfolk.homes import home
from leapfolk.rows import back, done
from leapfolk.verdicts import verdict
from tests.samples import (
    BIG, HUGE, JUNK, LINE, POSTED, RING, YARDS, Unchanged, generic, random_row, refusal, refusal_class, row_by_hand,
    standings_of,
)

AROUND = ((0, 1), (1, 0))


def again_by_hand(yard, standing, row, bound):
    """Return the number of repetitions, one after the other, or None if it is above the bound."""
    reached = standing
    for times in range(1, bound + 1):
        reached = done(yard, reached, row)
        if reached == standing:
            return times
    return None


class Again(unittest.TestCase):

    def check(self, yard, standing, row, wanted):
        with Unchanged(self, yard, standing, row):
            found = again(yard, standing, row)
        self.assertEqual(found, wanted, (yard, standing, row))
        if found is not None:
            self.assertIs(type(found), int)

    def check_bounds(self, yard, standing, row, wanted):
        """Check answers with bounds at the answer and around it."""
        self.check(yard, standing, row, wanted)
        for most in (wanted, wanted + 1, 2 * wanted, 10000):
            if most <= 10000:
                self.assertEqual(again(yard, standing, row, most=most), wanted)
        for most in (1, wanted // 2, wanted - 1):
            if 1 <= most < wanted:
                self.too_many(yard, standing, row, most)

    def too_many(self, yard, standing, row, most):
        error = refusal(again, yard, standing, row, most=most)
        self.assertIs(type(error), TooMany, (yard, standing, row, most))
        self.assertEqual(error.most, most)
        self.assertIs(type(error.most), int)

    def test_ordinary_answers(self):
        row = [(AROUND, 1)]
        self.check(((0, 5), 2, ()), ((0, 0), (0, 1)), row, 5)
        self.too_many(((0, 5), 2, ()), ((0, 0), (0, 1)), row, 4)
        self.check(LINE, ((0,), (1,)), row, None)
        self.check(LINE, ((3,), (3,)), row, 1)
        self.check(LINE, ((0,), (1,)), [(((0, 1),), 1)], 2)
        self.check(LINE, ((0,), (1,)), [(((0, 1), (0, 1)), 1)], 1)
        self.check(LINE, ((0,), (1,)), [], 1)
        self.check(RING, ((0,), (1,)), [], 1)
        self.check(((7,), 2, ()), ((2,), (5,)), row, 7)

    def test_small_rings_counted_one_by_one(self):
        source = random.Random(1)
        for yard in [((2,), 3, ()), ((3,), 4, ()), ((5,), 3, ()), ((8,), 2, ()), ((12,), 3, (1,)), ((9, 4), 3, ()),
                     ((30,), 2, ()), ((7, 5, 3), 4, (0,)), ((16,), 6, ()), ((25, 2), 5, (2, 3))]:
            for _ in range(8):
                standing = generic(yard, source.random())
                row = random_row(yard, source, source.randint(1, 4), 9)
                wanted = again_by_hand(yard, standing, row, 10000)
                if wanted is None:
                    self.too_many(yard, standing, row, 10000)
                else:
                    self.check_bounds(yard, standing, row, wanted)

    def test_all_standings_of_a_ring(self):
        row = [(AROUND, 1), (((0, 1),), 1), (((1, 0),), 1), (AROUND[::-1], 2)]
        for yard in [((6,), 2, ()), ((4,), 3, ())]:
            for standing in standings_of(yard):
                self.check(yard, standing, row, again_by_hand(yard, standing, row, 1000))

    def test_lines(self):
        source = random.Random(2)
        found = {1: 0, 2: 0, None: 0}
        for ways in [(0,), (0, 0), (0, 0, 0)]:
            for persons in range(2, 7):
                for posts in [(), (persons - 1,), (0,)]:
                    yard = (ways, persons, posts)
                    for n in range(12):
                        standing = generic(yard, source.random(), 5)
                        if n % 4 == 3:
                            standing = (standing[0],) * persons
                        # A leap between a row and the same row undone is done twice until all is as before.
                        row = random_row(yard, source, 2, 4)
                        if n % 2:
                            row = row + random_row(yard, source, 1, 1)[:1] + back(row)
                        wanted = again_by_hand(yard, standing, row, 2)
                        self.check(yard, standing, row, wanted)
                        found[wanted] += 1
                        if wanted is None:
                            self.assertIsNone(again_by_hand(yard, standing, row, 30))
                            self.assertIsNone(again(yard, standing, row, most=1))
        self.assertTrue(min(found.values()) > 10, found)

    def test_lines_return_after_two_repetitions_at_the_latest(self):
        # Rows of all short leaps: what does not return after two repetitions never does.
        yard = ((0,), 3, ())
        leaps = list(itertools.permutations(range(3), 2))
        for some in itertools.product(leaps, repeat=3):
            for standing in [((0,), (1,), (2,)), ((0,), (2,), (2,)), ((0,), (1,), (1,)), ((5,), (5,), (5,))]:
                row = [((leap,), 1) for leap in some]
                wanted = again_by_hand(yard, standing, row, 2)
                self.check(yard, standing, row, wanted)
                if wanted is None:
                    self.assertIsNone(again_by_hand(yard, standing, row, 12))

    def test_lines_and_rings_together(self):
        row = [(((0, 1),), 1)]
        # 2 on the line, and 1 or 2 on the ring.
        self.check_bounds(((0, 5), 2, ()), ((0, 0), (1, 0)), row, 2)
        self.check_bounds(((0, 5), 2, ()), ((3, 0), (3, 1)), row, 2)
        self.check_bounds(((0, 5), 2, ()), ((3, 4), (3, 4)), row, 1)
        # 2 on the line and an odd number on the ring.
        twice = [(((2, 0),), 1), (AROUND, 1)]
        for size in (3, 5, 9, 15, 4, 6):
            yard = ((0, size), 3, ())
            standing = ((0, 0), (0, 1), (7, 0))
            wanted = again_by_hand(yard, standing, twice, 10000)
            self.assertEqual(wanted % 2, 0)
            self.check_bounds(yard, standing, twice, wanted)
        # Never on the line, though always on the ring: there is no such number, and no bound matters.
        yard, around = ((5, 0), 2, ()), [(AROUND, 1)]
        self.assertIsNone(again(yard, ((0, 0), (1, 1)), around))
        self.assertIsNone(again(yard, ((0, 0), (1, 1)), around, most=1))
        self.assertIsNone(again(((0, BIG), 2, ()), ((0, 0), (1, 1)), around, most=1))

    def test_several_rings(self):
        around = [(AROUND, 1)]
        for ways in [(4, 6), (9, 10, 7), (2, 3, 5), (25, 10)]:
            yard = (ways, 2, ())
            self.check_bounds(yard, ((0,) * len(ways), (1,) * len(ways)), around, math.lcm(*[
                way // math.gcd(way, 2) for way in ways]))
        # Each ring returns within the bound, but not all of them together.
        yard = ((97, 89, 2), 2, ())
        self.check_bounds(yard, ((0, 0, 0), (1, 1, 1)), around, 97 * 89)
        self.too_many(((101, 103, 2), 2, ()), ((0, 0, 0), (1, 1, 1)), around, 10000)

    def test_answers_at_the_bound(self):
        around = [(AROUND, 1)]
        for wanted in (1, 2, 3, 9, 99, 100, 101, 127, 128, 129, 5000, 9999, 10000):
            # Each repetition moves both by 2.
            for size in {2 * wanted, wanted} if wanted % 2 else {2 * wanted}:
                if size > 1:
                    self.check_bounds(((size,), 2, ()), ((0,), (1,)), around, wanted)
        for wanted in (10001, 10002, 10003, 20000):
            self.too_many(((2 * wanted,), 2, ()), ((0,), (1,)), around, 10000)
            self.assertIs(refusal_class(again, ((2 * wanted,), 2, ()), ((0,), (1,)), around), TooMany)
            self.assertEqual(refusal(again, ((2 * wanted,), 2, ()), ((0,), (1,)), around).most, 10000)

    def test_all_bounds_of_one_question(self):
        yard, standing, row = ((60,), 2, ()), ((0,), (1,)), [(AROUND, 1)]
        for most in range(1, 200):
            if most < 30:
                self.too_many(yard, standing, row, most)
            else:
                self.assertEqual(again(yard, standing, row, most=most), 30)

    def test_great_rings(self):
        start = time.monotonic()
        size = 10 ** 60
        for wanted in (1, 2, 5, 10000):
            step = size // wanted
            # 2 steps of the difference are what a repetition adds.
            yard = ((2 * size,), 2, ())
            self.check_bounds(yard, ((7,), (7 + step,)), [(AROUND, 1)], wanted)
            self.check_bounds(yard, ((7,), (8,)), [(AROUND, step)], wanted)
        source = random.Random(3)
        for yard in [((BIG,), 6, ()), ((BIG, 10 ** 59 + 1, 2 ** 190), 6, (2,)), ((HUGE,), 3, ())]:
            standing = generic(yard, 4)
            row = random_row(yard, source, 6, 10 ** 50)
            self.too_many(yard, standing, row, 10000)
            self.too_many(yard, standing, row, 1)
            self.check_bounds(yard, standing, row + back(row), 1)
            self.check_bounds(yard, standing, row + [(((0, 1),), 1)] + back(row), 2)
        self.assertLess(time.monotonic() - start, 60)

    def test_rows_with_times_of_many_digits(self):
        source = random.Random(4)
        for size in (5, 12, 97, 360):
            yard = ((size,), 3, ())
            standing = generic(yard, size)
            row = [(AROUND, BIG), (((2, 0), (2, 1)), HUGE), (((0, 2),), 1)]
            small = [(AROUND, BIG % size + size), (((2, 0), (2, 1)), HUGE % size + size), (((0, 2),), 1)]
            wanted = next(n for n in itertools.count(1) if row_by_hand(yard, standing, small * n) == standing)
            self.check_bounds(yard, standing, row, wanted)
        yard = ((0, 0), 5, ())
        standing = generic(yard, 1, BIG)
        row = random_row(yard, source, 300, 10 ** 20)
        self.check(yard, standing, row, None)
        self.check(yard, standing, row + back(row), 1)

    def test_rows_that_the_program_found(self):
        source = random.Random(5)
        for yard in YARDS:
            standing = generic(yard, 3, BIG)
            end, row = home(yard, standing)
            self.assertEqual(again(yard, standing, row + back(row)), 1)
            self.assertEqual(again(yard, end, []), 1)
            after = done(yard, standing, random_row(yard, source, 3, 10 ** 9))
            there = verdict(yard, standing, after)[1]
            found = refusal(again, yard, standing, there)
            self.assertTrue(found is None or type(found) is TooMany)

    def test_most_by_name_only(self):
        self.assertIs(refusal_class(again, RING, ((0,), (1,)), [(AROUND, 1)], 5), TypeError)
        self.assertEqual(again(most=5, row=[(AROUND, 1)], standing=((0,), (1,)), yard=RING), 5)

    def test_what_is_no_bound(self):
        for most in JUNK + [0, -1, 10001, 10 ** 60, "5", 5.0, (5,), [5]]:
            if type(most) is not int or not 1 <= most <= 10000:
                for standing in [((0,), (0,)), ((0,), (1,))]:
                    for row in ([], [(AROUND, 1)]):
                        self.assertIs(refusal_class(again, RING, standing, row, most=most), NoNumber, most)
                        self.assertIs(refusal_class(again, LINE, standing, row, most=most), NoNumber, most)
        for most in (1, 2, 10000):
            self.assertEqual(again(LINE, ((0,), (1,)), [], most=most), 1)

    def test_wrong_arguments(self):
        right, row = ((0,), (1,)), [(AROUND, 1)]
        for thing in JUNK + [((0,), (5,)), ((0,), [1]), [(0,), (1,)], ((0,),), ((0,), (True,)), ((AROUND, 1),), [AROUND],
                             [(((0, 1),), 2)], [(AROUND, 0)], [(AROUND, 1), None]]:
            self.assertIs(refusal_class(again, thing, right, row), NoYard, thing)
            self.assertIs(refusal_class(again, thing, thing, thing, most=thing), NoYard, thing)
            self.assertIs(refusal_class(again, RING, thing, row), NoStanding, thing)
            self.assertIs(refusal_class(again, RING, thing, thing, most=None), NoStanding, thing)
            if thing != []:
                self.assertIs(refusal_class(again, RING, right, thing), NoRow, thing)
                self.assertIs(refusal_class(again, RING, right, thing, most=None), NoRow, thing)
                self.assertIs(refusal_class(again, RING, right, thing, most=0), NoRow, thing)
        # A post does not leap.
        self.assertIs(refusal_class(again, POSTED, generic(POSTED), [(((1, 0),), 1)]), NoRow)


if __name__ == "__main__":
    unittest.main()
