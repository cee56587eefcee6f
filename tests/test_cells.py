"""Promises 3 and 20: cells, and all persons gathered on their corners."""

import itertools
import random
import time
import unittest

from leapfolk.cells import gathered
from leapfolk.errors import NoCell, NoStanding, NoYard
from leapfolk.rows import done, row_wrong
from leapfolk.spans import span
from leapfolk.turns import kept
from tests.samples import BIG, HUGE, JUNK, LINE, Unchanged, digits_of, generic, is_plain, minus, random_row, refusal_class
from tests.test_homes import close_numbers

LINES = [(0,), (0, 0), (0, 0, 0)]


def plus(point, vector, times=1):
    """Return the point moved by so many times the vector."""
    return tuple(x + times * y for x, y in zip(point, vector))


def corners_by_hand(corner, steps):
    """Return all corners of a cell."""
    found = []
    for size in range(len(steps) + 1):
        for some in itertools.combinations(steps, size):
            point = corner
            for step in some:
                point = plus(point, step)
            found.append(point)
    return found


def random_cell(yard, standing, source, bound):
    """Return a corner and steps of a cell, made of the span's reduced rows by steps that can be undone."""
    rows = span(yard, standing)
    corner = standing[0]
    for row in rows:
        corner = plus(corner, row, source.randint(-bound, bound))
    for _ in range(4 if len(rows) > 1 else 0):
        a, b = source.sample(range(len(rows)), 2)
        rows[a] = plus(rows[a], rows[b], source.randint(-bound, bound))
    source.shuffle(rows)
    return corner, tuple(tuple(-x for x in row) if source.randrange(2) else row for row in rows)


def flat_standing(yard, source, rank, bound):
    """Return a standing whose span has at most so many reduced rows."""
    vectors = [tuple(source.randint(-3, 3) for _ in yard[0]) for _ in range(rank)]
    found = []
    for _ in range(yard[1]):
        point = (1,) * len(yard[0])
        for vector in vectors:
            point = plus(point, vector, source.randint(-bound, bound))
        found.append(point)
    return tuple(found)


class Gathered(unittest.TestCase):

    def check(self, yard, standing, corner, steps):
        with Unchanged(self, yard, standing, corner, steps):
            answer = gathered(yard, standing, corner, steps)
        self.assertIs(type(answer), tuple)
        self.assertTrue(is_plain(answer))
        end, row = answer
        self.assertIs(type(end), tuple)
        self.assertIs(type(row), list)
        self.assertIsNone(row_wrong(yard, row))
        self.assertEqual(done(yard, standing, row), end)
        corners = corners_by_hand(corner, steps)
        self.assertTrue(all(point in corners for point in end), (yard, standing, corner, steps, end))
        digits = max(digits_of(standing), digits_of(corner), digits_of(steps))
        self.assertLessEqual(len(row), 5000 * digits)
        if digits <= 60:
            self.assertLessEqual(digits_of(answer), 4000)
        return end

    def test_ordinary_answers(self):
        self.assertEqual(self.check(LINE, ((5,), (8,)), (2,), ((-3,),)), ((-1,), (2,)))
        self.assertEqual(self.check(LINE, ((5,), (8,)), (5,), ((3,),)), ((5,), (8,)))
        self.assertEqual(self.check(LINE, ((5,), (8,)), (8,), ((3,),)), ((11,), (8,)))
        yard = ((0, 0), 3, ())
        self.assertEqual(self.check(yard, ((0, 0), (7, 0), (0, 5)), (0, 0), ((7, 0), (0, 5))), ((0, 0), (7, 0), (0, 5)))
        self.assertEqual(self.check(yard, ((0, 0), (1, 0), (6, 1)), (0, 0), ((1, 0), (1, 1))), ((0, 0), (1, 0), (2, 1)))

    def test_any_kind_of_cell(self):
        source = random.Random(1)
        ranks = set()
        for ways in LINES:
            for persons in range(2, 7):
                yard = (ways, persons, ())
                for n in range(12):
                    rank = source.randrange(len(ways) + 1)
                    standing = flat_standing(yard, source, rank, 4) if n % 2 else generic(yard, source.random(), 5)
                    ranks.add((len(ways), len(span(yard, standing))))
                    self.check(yard, standing, *random_cell(yard, standing, source, 4))
        self.assertEqual(ranks, {(1, 0), (1, 1), (2, 0), (2, 1), (2, 2), (3, 0), (3, 1), (3, 2), (3, 3)})

    def test_orders_and_signs_of_the_steps(self):
        yard, standing = ((0, 0, 0), 5, ()), ((1, 2, 3), (2, 2, 3), (1, 5, 3), (1, 2, 8), (4, 4, 4))
        rows = span(yard, standing)
        for order in itertools.permutations(rows):
            for signs in itertools.product((1, -1), repeat=3):
                steps = tuple(tuple(sign * x for x in row) for sign, row in zip(signs, order))
                self.check(yard, standing, plus(standing[3], rows[1], 7), steps)

    def test_all_on_one_point(self):
        for ways in LINES:
            for persons in (2, 6):
                point = tuple(range(5, 5 + len(ways)))
                yard, standing = (ways, persons, ()), (point,) * persons
                self.assertEqual(self.check(yard, standing, point, ()), standing)
                self.assertIs(refusal_class(gathered, yard, standing, plus(point, point), ()), NoCell)
                self.assertIs(refusal_class(gathered, yard, standing, point, ((0,) * len(ways),)), NoCell)

    def test_same_end_for_all_that_rows_lead_to(self):
        source = random.Random(2)
        for ways in LINES:
            for persons in range(2, 7):
                yard = (ways, persons, ())
                standing = generic(yard, source.random(), 6)
                cell = random_cell(yard, standing, source, 3)
                end = self.check(yard, standing, *cell)
                for bound in (1, 5, 10 ** 9):
                    after = done(yard, standing, random_row(yard, source, 4, bound))
                    self.assertEqual(self.check(yard, after, *cell), end)
                self.assertEqual(self.check(yard, end, *cell), end)

    def test_there_is_exactly_one_such_standing(self):
        source = random.Random(3)
        for ways, persons in [((0,), 2), ((0,), 4), ((0, 0), 3), ((0, 0), 4), ((0, 0, 0), 4), ((0, 0, 0), 3)]:
            yard = (ways, persons, ())
            standing = generic(yard, source.random(), 5)
            corner, steps = random_cell(yard, standing, source, 2)
            end = self.check(yard, standing, corner, steps)
            value = kept(yard, standing)
            found = [some for some in itertools.product(corners_by_hand(corner, steps), repeat=persons)
                     if kept(yard, some) == value]
            self.assertEqual(found, [end])

    def test_corners_determined_by_colours(self):
        source = random.Random(4)
        for ways in LINES:
            yard = (ways, 6, ())
            standing = generic(yard, source.random(), 9)
            end = self.check(yard, standing, *random_cell(yard, standing, source, 5))
            rows = span(yard, standing)
            for before, after in zip(standing, end):
                rest = minus(after, before)
                for row in rows:
                    place = next(k for k, x in enumerate(row) if x)
                    self.assertEqual(rest[place] % (2 * row[place]), 0)
                    rest = plus(rest, row, -rest[place] // row[place])
                self.assertFalse(any(rest))

    def test_sixty_digits(self):
        source = random.Random(5)
        start = time.monotonic()
        for ways in LINES:
            for persons in range(2, 7):
                yard = (ways, persons, ())
                for standing in (generic(yard, source.random(), BIG), close_numbers(yard, source, BIG),
                                 generic(yard, source.random(), 1)):
                    rows = span(yard, standing)
                    self.check(yard, standing, standing[1], tuple(rows))
                    self.check(yard, standing, *random_cell(yard, standing, source, 10 ** 19))
        self.assertLess(time.monotonic() - start, 60)

    def test_thousands_of_digits(self):
        self.check(LINE, ((HUGE,), (HUGE + 3,)), (HUGE - 6,), ((3,),))
        self.check(LINE, ((0,), (HUGE,)), (-HUGE,), ((-HUGE,),))

    def test_rows_are_new(self):
        cell = ((2,), ((-3,),))
        end, row = gathered(LINE, ((5,), (8,)), *cell)
        again = list(row)
        row.append("mine")
        row.reverse()
        self.assertEqual(gathered(LINE, ((5,), (8,)), *cell), (end, again))

    def test_what_is_no_cell(self):
        yard, standing = ((0, 0), 3, ()), ((1, 1), (3, 1), (1, 4))
        corner, steps = (3, 4), ((2, 0), (0, 3))
        self.check(yard, standing, corner, steps)
        for thing in JUNK + [(2, 4), (3, 3), (3,), (3, 4, 0), [3, 4], (3, True), (3, 4.0), (3, None), ((3,), (4,))]:
            self.assertIs(refusal_class(gathered, yard, standing, thing, steps), NoCell, thing)
            self.assertIs(refusal_class(gathered, yard, standing, thing, thing), NoCell, thing)
        for thing in JUNK + [
            [(2, 0), (0, 3)], ([2, 0], [0, 3]), ((2, 0),), ((2, 0), (0, 3), (0, 3)), ((2, 0), (0, 3), (0, 0)),
            ((2, 0), (0, 6)), ((1, 0), (0, 3)), ((2, 0), (2, 0)), ((2, 0), (0, 0)), ((2, 0), (0, 3, 0)), ((2, 0), (3,)),
            ((2, 0), None), ((2, 0), (0, True)), ((2, 0), (0, 3.0)), ((2, 0), (1, 3)), ((2, 3), (2, -3)), (2, 0), (),
        ]:
            self.assertIs(refusal_class(gathered, yard, standing, corner, thing), NoCell, thing)
            self.assertIs(refusal_class(gathered, yard, standing, (0, 0), thing), NoCell, thing)
        self.check(yard, standing, corner, ((2, 3), (0, -3)))
        self.check(yard, standing, corner, ((-2, 6), (2, -9)))

    def test_spans_of_fewer_rows_than_ways(self):
        yard, standing = ((0, 0), 3, ()), ((0, 0), (2, 4), (6, 12))
        self.assertEqual(self.check(yard, standing, (0, 0), ((2, 4),)), ((0, 0), (2, 4), (2, 4)))
        for corner, steps in [((0, 0), ((1, 2),)), ((0, 0), ((2, 4), (0, 0))), ((0, 0), ()), ((1, 2), ((2, 4),)),
                              ((0, 1), ((2, 4),)), ((0, 0), ((4, 8),)), ((0, 0), ((2, 0),))]:
            self.assertIs(refusal_class(gathered, yard, standing, corner, steps), NoCell)

    def test_wrong_yards_and_standings(self):
        standing, cell = ((5,), (8,)), ((2,), ((-3,),))
        for thing in JUNK + [((0,), 2), ((1,), 2, ()), ((0,), 7, ()), ((0,), 2, (0,)), ((0,), 2, (1,)), ((9,), 2, ()),
                             ((2,), 2, ()), ((9,), 2, (0,)), ((0, 5), 2, ()), ((5, 0, 0), 2, ()), [(0,), 2, ()]]:
            self.assertIs(refusal_class(gathered, thing, standing, *cell), NoYard, thing)
            self.assertIs(refusal_class(gathered, thing, None, None, None), NoYard, thing)
        for thing in JUNK + [[(5,), (8,)], ((5,),), ((5,), [8]), ((5,), (True,)), ((5,), (8,), (2,))]:
            self.assertIs(refusal_class(gathered, LINE, thing, *cell), NoStanding, thing)
            self.assertIs(refusal_class(gathered, LINE, thing, thing, thing), NoStanding, thing)


if __name__ == "__main__":
    unittest.main()
