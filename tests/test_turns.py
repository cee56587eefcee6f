"""Promises 13 and 14: turns, and all that never changes."""

import itertools
import math
import random
import unittest
from fractions import Fraction

from leapfolk.errors import NoStanding, NoYard
from leapfolk.makers import makers
from leapfolk.rows import done
from leapfolk.spans import kept_span
from leapfolk.turns import kept, turn_between
from tests.samples import (
    BIG, JUNK, LINE, POSTED, RING, YARDS, Unchanged, classes_of, determinant_by_hand, differences_by_hand,
    floor_by_hand, generic, is_plain, leap_by_hand, movers_by_hand, random_row, refusal_class, standings_of,
    walkers_over,
)
from tests.test_readings import read_by_hand

RINGS = [
    ((2,), 2, ()), ((5,), 2, ()), ((8,), 2, ()), ((9,), 2, ()), ((12,), 2, (0,)), ((7,), 2, (1,)), ((4,), 3, ()),
    ((6,), 3, ()), ((6,), 3, (1,)), ((9,), 3, (0, 2)), ((3, 3), 3, ()), ((2, 4), 2, ()), ((3, 6), 2, ()),
    ((5,), 4, (1,)), ((2,), 5, ()), ((2, 2, 2), 2, ()), ((3,), 4, (1, 2)),
]


def readings_of(yard, count, one, other):
    """Return all readings of a yard of rings that are 0 of the floor and count times integers of both standings."""
    choices = [[(f.numerator, f.denominator) for f in (Fraction(k, way) for k in range(way))] for way in yard[0]]
    found = []
    for reading in itertools.product(*choices):
        vectors = differences_by_hand(yard, one) + differences_by_hand(yard, other)
        if all(read_by_hand(reading, v) == (0, 1) for v in floor_by_hand(yard, one)):
            if all(count % read_by_hand(reading, v)[1] == 0 for v in vectors):
                found.append(reading)
    return found


def table_by_hand(yard, standing, count, readings):
    """Return the determinant of count times the readings of the movers' differences."""
    return determinant_by_hand([
        [int(count * Fraction(*read_by_hand(reading, vector))) for vector in differences_by_hand(yard, standing)]
        for reading in readings
    ])


def has_turn(yard, standing):
    """Return whether the standing has a turn."""
    found = makers(yard, standing)
    return len(found) == len(movers_by_hand(yard)) and found[0] != 0


def same_posts(yard, one, other):
    """Return whether all posts stand at the same points."""
    return all(one[post] == other[post] for post in yard[2])


class TurnBetween(unittest.TestCase):

    def check(self, yard, one, other):
        with Unchanged(self, yard, one, other):
            found = turn_between(yard, one, other)
        if not same_posts(yard, one, other) or kept_span(yard, one) != kept_span(yard, other) or not has_turn(yard, one):
            self.assertIsNone(found)
            return None
        self.assertIs(type(found), tuple)
        self.assertTrue(is_plain(found))
        count, times = found
        self.assertEqual(count, makers(yard, one)[0])
        self.assertTrue(1 <= times and 2 * times <= count)
        self.assertEqual(math.gcd(count, times), 1)
        return found

    def test_ordinary_answers(self):
        self.assertEqual(turn_between(((7,), 2, ()), ((0,), (1,)), ((0,), (2,))), (7, 2))
        self.assertEqual(turn_between(((7,), 2, ()), ((0,), (2,)), ((0,), (1,))), (7, 3))
        self.assertEqual(turn_between(((7,), 2, ()), ((0,), (2,)), ((3,), (5,))), (7, 1))
        self.assertEqual(turn_between(((7,), 2, ()), ((0,), (2,)), ((3,), (1,))), (7, 1))
        self.assertEqual(turn_between(((8,), 2, ()), ((0,), (1,)), ((0,), (3,))), (8, 3))
        self.assertEqual(turn_between(((8,), 2, ()), ((0,), (2,)), ((0,), (6,))), (4, 1))
        self.assertEqual(turn_between(((2,), 2, ()), ((0,), (1,)), ((1,), (0,))), (2, 1))
        self.assertEqual(turn_between(((7,), 2, (0,)), ((4,), (5,)), ((4,), (6,))), (7, 2))
        self.assertEqual(turn_between(((5, 5), 3, ()), ((0, 0), (1, 0), (0, 1)), ((0, 0), (2, 0), (0, 1))), (5, 2))
        self.assertEqual(turn_between(((5, 10), 3, ()), ((0, 0), (1, 0), (0, 1)), ((0, 0), (2, 0), (0, 1))), (5, 2))

    def test_none(self):
        self.assertIsNone(turn_between(LINE, ((0,), (1,)), ((0,), (1,))))
        self.assertIsNone(turn_between(((7,), 3, ()), ((0,), (1,), (2,)), ((0,), (1,), (2,))))
        self.assertIsNone(turn_between(((7,), 2, ()), ((3,), (3,)), ((3,), (3,))))
        self.assertIsNone(turn_between(((7,), 2, ()), ((0,), (1,)), ((3,), (3,))))
        self.assertIsNone(turn_between(((7,), 2, ()), ((3,), (3,)), ((0,), (1,))))
        self.assertIsNone(turn_between(((8,), 2, ()), ((0,), (1,)), ((0,), (2,))))
        self.assertIsNone(turn_between(((7,), 2, (0,)), ((4,), (5,)), ((3,), (4,))))
        # The second post stands elsewhere, though the spans are equal.
        self.assertIsNone(turn_between(((9,), 3, (0, 1)), ((0,), (3,), (1,)), ((0,), (6,), (1,))))
        self.assertEqual(turn_between(((9,), 3, (0, 1)), ((0,), (3,), (1,)), ((0,), (3,), (1,))), (3, 1))

    def test_colours_do_not_matter(self):
        self.assertEqual(turn_between(((8,), 2, ()), ((0,), (1,)), ((1,), (4,))), (8, 3))

    def test_all_readings_on_small_rings(self):
        source = random.Random(1)
        for yard in RINGS:
            standings = standings_of(yard)
            for _ in range(40):
                one, other = source.choice(standings), source.choice(standings)
                if source.randrange(2):
                    other = tuple(one[k] if k in yard[2] else point for k, point in enumerate(other))
                found = self.check(yard, one, other)
                if found is None:
                    continue
                count, times = found
                readings = readings_of(yard, count, one, other)
                many = len(movers_by_hand(yard))
                tables = list(itertools.product(readings, repeat=many))
                for some in tables if len(tables) < 50 else source.sample(tables, 50):
                    here = table_by_hand(yard, one, count, some)
                    there = table_by_hand(yard, other, count, some)
                    self.assertIn(0, [(times * here - there) % count, (times * here + there) % count])

    def test_there_is_exactly_one_number(self):
        for size in (5, 7, 8, 9, 12):
            yard = ((size,), 2, ())
            for here in range(1, size):
                for there in range(1, size):
                    found = self.check(yard, ((0,), (here,)), ((0,), (there,)))
                    if found:
                        fit = [c for c in range(1, found[0] // 2 + 1) if math.gcd(c, found[0]) == 1 and
                               ((c * here - there) % size == 0 or (c * here + there) % size == 0)]
                        self.assertEqual([found[1]], fit)

    def test_leaps_change_no_turn(self):
        source = random.Random(2)
        for yard in RINGS:
            for seed in range(5):
                one = generic(yard, seed)
                if has_turn(yard, one):
                    for leap in walkers_over(yard):
                        self.assertEqual(self.check(yard, one, leap_by_hand(yard, one, leap))[1], 1)
                    row = random_row(yard, source, 5, 9)
                    self.assertEqual(self.check(yard, one, done(yard, one, row))[1], 1)

    def test_there_and_back(self):
        source = random.Random(3)
        for yard in RINGS:
            standings = standings_of(yard)
            for _ in range(60):
                one, other, third = (source.choice(standings) for _ in range(3))
                first, back = turn_between(yard, one, other), turn_between(yard, other, one)
                self.assertIs(first is None, back is None)
                if first is not None:
                    self.assertIn((first[1] * back[1]) % first[0], (1, first[0] - 1))
                    on = turn_between(yard, other, third)
                    if on is not None:
                        whole, size = first[1] * on[1] % first[0], first[0]
                        self.assertEqual(turn_between(yard, one, third), (size, min(whole, size - whole)))

    def test_posts_on_lines(self):
        yard = ((0,), 3, (0, 2))
        for c in range(1, 30):
            found = self.check(yard, ((0,), (1,), (7,)), ((0,), (c,), (7,)))
            self.assertEqual(found, (14, min(c % 14, -c % 14)) if math.gcd(c, 14) == 1 else None)

    def test_long_numbers(self):
        size = 10 ** 60 - 1
        yard = ((size,), 2, ())
        found = self.check(yard, ((0,), (2,)), ((5,), (9,)))
        self.assertIn((found[1] * 2) % size, (4, size - 4))
        found = self.check(yard, ((0,), (2,)), ((5,), (2 ** 190 + 5,)))
        self.assertIsNotNone(found)
        self.assertIn(found[1] * 2 % size, (2 ** 190, size - 2 ** 190))
        yard = ((size, size, 0), 4, (1,))
        self.check(yard, generic(yard, 1, BIG), generic(yard, 1, BIG))

    def test_wrong_standings_and_yards(self):
        right = ((0,), (1,))
        for thing in JUNK + [[(0,), (1,)], ((0,),), ((0,), [1]), ((0,), (True,)), ((0,), (5,)), ((0,), (-1,))]:
            self.assertIs(refusal_class(turn_between, RING, thing, right), NoStanding, thing)
            self.assertIs(refusal_class(turn_between, RING, right, thing), NoStanding, thing)
            self.assertIs(refusal_class(turn_between, RING, thing, thing), NoStanding, thing)
            self.assertIs(refusal_class(turn_between, thing, right, right), NoYard, thing)
            self.assertIs(refusal_class(turn_between, thing, thing, None), NoYard, thing)
        # A wrong standing is refused also where the answer would be None whatever it is.
        self.assertIs(refusal_class(turn_between, LINE, right, None), NoStanding)
        self.assertIs(refusal_class(turn_between, LINE, None, right), NoStanding)


class Kept(unittest.TestCase):

    def test_equal_exactly_within_classes(self):
        for yard in RINGS + [((12,), 2, ()), ((8,), 3, (0,)), ((2, 3), 2, ()), ((4,), 4, (2,)), ((2,), 6, ())]:
            values = {}
            numbers = classes_of(yard)
            for standing, number in numbers.items():
                value = kept(yard, standing)
                self.assertTrue(values.setdefault(number, value) == value, (yard, standing))
            for one, other in itertools.combinations(list(values.values())[:200], 2):
                self.assertFalse(one == other)
                self.assertTrue(one != other)

    def test_turn_is_one_within_classes(self):
        for yard in RINGS:
            first = {}
            for standing, number in classes_of(yard).items():
                found = turn_between(yard, first.setdefault(number, standing), standing)
                if found is not None:
                    self.assertEqual(found[1], 1)

    def test_long_rows(self):
        source = random.Random(4)
        for yard in YARDS:
            one = generic(yard, 5, BIG)
            for _ in range(4):
                other = done(yard, one, random_row(yard, source, 6, BIG))
                self.assertTrue(kept(yard, one) == kept(yard, other))

    def test_each_part_tells_standings_apart(self):
        for yard, one, other in [
            (((0,), 2, (0,)), ((0,), (2,)), ((4,), (2,))),                              # posts
            (((0,), 3, ()), ((0,), (1,), (0,)), ((0,), (3,), (0,))),                    # spans
            (((0,), 3, ()), ((0,), (1,), (0,)), ((0,), (1,), (1,))),                    # colours
            (((0,), 2, ()), ((0,), (1,)), ((1,), (2,))),
            (((7,), 2, ()), ((0,), (1,)), ((0,), (2,))),                                # turns
            (((0,), 3, (0, 2)), ((0,), (1,), (7,)), ((0,), (3,), (7,))),
        ]:
            self.assertFalse(kept(yard, one) == kept(yard, other))
            self.assertTrue(kept(yard, one) == kept(yard, one))
            self.assertTrue(kept(yard, other) == kept(yard, other))

    def test_wrong_standings_and_yards(self):
        for thing in JUNK + [[(0,), (1,)], ((0,),), ((0,), [1]), ((0,), (True,)), ((0,), (1,), (2,))]:
            self.assertIs(refusal_class(kept, LINE, thing), NoStanding, thing)
            self.assertIs(refusal_class(kept, thing, ((0,), (1,))), NoYard, thing)
            self.assertIs(refusal_class(kept, thing, thing), NoYard, thing)
        self.assertIs(refusal_class(kept, POSTED, generic(POSTED)[:3]), NoStanding)


if __name__ == "__main__":
    unittest.main()
