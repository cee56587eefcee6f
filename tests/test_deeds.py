"""Promise 21: the tables of rows, and rows for tables."""

import itertools
import random
import time
import unittest

from leapfolk.deeds import deed_of, row_for
from leapfolk.errors import NoRow, NoTable
from leapfolk.homes import home
from leapfolk.rows import back, done, row_wrong
from tests.samples import (
    BIG, HUGE, JUNK, Unchanged, determinant_by_hand, digits_of, generic, is_plain, matrix_of, random_row, refusal_class,
    walkers_over,
)

AROUND = ((0, 1), (1, 0))


def product_by_hand(one, other):
    """Return the product of two tables."""
    return tuple(tuple(sum(x * other[k][n] for k, x in enumerate(line)) for n in range(len(other))) for line in one)


def unit(persons):
    """Return the table that changes nothing."""
    return tuple(tuple(int(k == n) for n in range(persons)) for k in range(persons))


def table_by_hand(persons, row):
    """Return the table of a row, leap by leap."""
    found = unit(persons)
    for leaps, times in row:
        for _ in range(times):
            found = product_by_hand(matrix_of(persons, leaps), found)
    return found


def placed_by_hand(ways, table, standing):
    """Return where the table leads the standing."""
    return tuple(
        tuple(sum(many * point[n] for many, point in zip(line, standing)) % way if way else
              sum(many * point[n] for many, point in zip(line, standing)) for n, way in enumerate(ways))
        for line in table
    )


def is_deed_by_hand(persons, posts, table):
    """Return whether a table of so many lines and columns of integers has the properties that the document lists."""
    walkers = [k for k in range(persons) if k not in posts]
    return (all(sum(line) == 1 for line in table)
            and all(table[k][n] % 2 == (k == n) for k in range(persons) for n in range(persons))
            and all(table[post] == unit(persons)[post] for post in posts)
            and abs(determinant_by_hand([[table[k][n] for n in walkers] for k in walkers])) == 1)


def all_posts(persons):
    """Return all posts of so many persons."""
    return [some for size in range(persons) for some in itertools.combinations(range(persons), size)]


class DeedOf(unittest.TestCase):

    def test_leaps_one_by_one(self):
        source = random.Random(1)
        for persons in range(2, 7):
            yard = ((0,), persons, ())
            self.assertEqual(deed_of(persons, []), unit(persons))
            for leap in walkers_over(yard):
                self.assertEqual(deed_of(persons, [((leap,), 1)]), product_by_hand(matrix_of(persons, [leap]), unit(persons)))
            for _ in range(10):
                row = random_row(yard, source, 4, 5)
                with Unchanged(self, row):
                    table = deed_of(persons, row)
                self.assertEqual(table, table_by_hand(persons, row))
                self.assertTrue(is_plain(table))
                self.assertIs(type(table), tuple)
                self.assertEqual(product_by_hand(deed_of(persons, back(row)), table), unit(persons))

    def test_ordinary_answers(self):
        self.assertEqual(deed_of(2, [(((0, 1),), 1)]), ((-1, 2), (0, 1)))
        self.assertEqual(deed_of(2, [(AROUND, 5)]), ((-9, 10), (-10, 11)))
        self.assertEqual(deed_of(3, [(((0, 1), (0, 2)), BIG)]), ((1, -2 * BIG, 2 * BIG), (0, 1, 0), (0, 0, 1)))
        self.assertEqual(deed_of(2, [(AROUND, HUGE)]), ((1 - 2 * HUGE, 2 * HUGE), (-2 * HUGE, 2 * HUGE + 1)))

    def test_tells_where_every_standing_goes(self):
        source = random.Random(2)
        for ways in [(0,), (0, 0), (12,), (7, 0), (5, 8, 0), (2, 9, BIG)]:
            for persons in range(2, 7):
                yard = (ways, persons, ())
                for bound in (1, 9, BIG):
                    row = random_row(yard, source, 5, bound)
                    table = deed_of(persons, row)
                    for _ in range(3):
                        standing = generic(yard, source.random(), 10 ** 9)
                        self.assertEqual(placed_by_hand(ways, table, standing), done(yard, standing, row))

    def test_tables_of_rows_have_the_properties(self):
        source = random.Random(3)
        for persons in range(2, 7):
            for posts in [(), (0,), (1,), tuple(range(persons - 1))]:
                row = random_row(((0,), persons, posts), source, 6, 10 ** 6)
                self.assertTrue(is_deed_by_hand(persons, posts, deed_of(persons, row)))

    def test_rows_that_the_program_found(self):
        yard = ((0, 0), 5, ())
        standing = generic(yard, 1, BIG)
        end, row = home(yard, standing)
        self.assertEqual(placed_by_hand(yard[0], deed_of(5, row), standing), end)

    def test_wrong_arguments(self):
        for thing in JUNK + [0, 1, 7, -2, 2.0, "2", (2,), 10 ** 60]:
            if not isinstance(thing, (int, float)) or thing not in range(2, 7) or isinstance(thing, float):
                self.assertIs(refusal_class(deed_of, thing, []), NoRow, thing)
                self.assertIs(refusal_class(deed_of, thing, thing), NoRow, thing)
        for thing in JUNK + [((AROUND, 1),), [AROUND], [(AROUND, 0)], [(AROUND, True)], [(((0, 1),), 2)], [[AROUND, 1]],
                             [(((0, 2),), 1)], [(((0, 0),), 1)], [(AROUND, 1), None], [(AROUND, 1.0)], [((), 1)]]:
            if thing != []:
                self.assertIs(refusal_class(deed_of, 2, thing), NoRow, thing)
        self.assertEqual(deed_of(3, [(((0, 2),), 1)]), ((-1, 0, 2), (0, 1, 0), (0, 0, 1)))


class RowFor(unittest.TestCase):

    def check(self, persons, posts, table):
        with Unchanged(self, table):
            row = row_for(persons, posts, table)
        self.assertIs(type(row), list)
        self.assertTrue(is_plain(row))
        # A row of the yard with these posts: only walkers leap.
        self.assertIsNone(row_wrong(((0,), persons, posts), row))
        self.assertEqual(deed_of(persons, row), table)
        self.assertEqual(placed_by_hand((0, 30), table, generic(((0, 30), persons, ()), 1)),
                         done(((0, 30), persons, posts), generic(((0, 30), persons, ()), 1), row))
        digits = digits_of(table)
        self.assertLessEqual(len(row), 5000 * digits)
        if digits <= 60:
            self.assertLessEqual(digits_of(row), 4000)
        return row

    def refuse(self, persons, posts, table):
        self.assertIs(refusal_class(row_for, persons, posts, table), NoTable, (persons, posts, table))

    def test_tables_of_rows(self):
        source = random.Random(1)
        for persons in (2, 3, 4):
            for posts in all_posts(persons):
                yard = ((0,), persons, posts)
                self.check(persons, posts, unit(persons))
                for leap in walkers_over(yard):
                    self.check(persons, posts, deed_of(persons, [((leap,), 1)]))
                for bound in (1, 3, 10 ** 6):
                    for size in (2, 5, 12):
                        self.check(persons, posts, deed_of(persons, random_row(yard, source, size, bound)))

    def test_all_small_tables(self):
        for persons, bound in [(2, 5), (3, 2)]:
            lines = list(itertools.product(range(-bound, bound + 1), repeat=persons))
            some = [line for line in lines if sum(line) == 1]
            for posts in all_posts(persons):
                for table in itertools.product(some, repeat=persons):
                    if is_deed_by_hand(persons, posts, table):
                        self.check(persons, posts, table)
                    else:
                        self.refuse(persons, posts, table)
        for table in itertools.product(itertools.product(range(-2, 3), repeat=2), repeat=2):
            if not is_deed_by_hand(2, (), table):
                self.refuse(2, (), table)

    def test_tables_of_chance(self):
        source = random.Random(2)
        found = {True: 0, False: 0}
        for _ in range(3000):
            persons = source.choice([3, 4])
            posts = source.choice(all_posts(persons))
            table = []
            for k in range(persons):
                line = [2 * source.randint(-1, 1) for _ in range(persons)]
                line[k] = 0
                line[k] = 1 - sum(line)
                table.append(unit(persons)[k] if k in posts else tuple(line))
            right = is_deed_by_hand(persons, posts, tuple(table))
            found[right] += 1
            if right:
                self.check(persons, posts, tuple(table))
            else:
                self.refuse(persons, posts, tuple(table))
        self.assertTrue(min(found.values()) > 200, found)

    def test_tables_that_break_one_condition(self):
        self.check(2, (), ((-1, 2), (0, 1)))
        self.check(2, (), ((-9, 10), (-10, 11)))
        # A line that does not sum to 1; lines that are odd and even elsewhere; a determinant that is neither 1 nor -1.
        self.refuse(2, (), ((1, 2), (0, 1)))
        self.refuse(2, (), ((-1, 2), (0, -1)))
        self.refuse(2, (), ((0, 1), (1, 0)))
        self.refuse(2, (), ((2, -1), (0, 1)))
        self.refuse(2, (), ((3, -2), (0, 1)))
        self.refuse(2, (), ((3, -2), (2, -1))[::-1])
        self.refuse(2, (), ((-1, 2), (2, -1)))
        # What a post's line is.
        self.check(2, (1,), ((-1, 2), (0, 1)))
        self.refuse(2, (0,), ((-1, 2), (0, 1)))
        self.check(3, (2,), ((1, -2, 2), (0, 1, 0), (0, 0, 1)))
        self.refuse(3, (0,), ((1, -2, 2), (0, 1, 0), (0, 0, 1)))
        self.refuse(3, (0, 1), ((1, -2, 2), (0, 1, 0), (0, 0, 1)))
        self.check(3, (1, 2), ((1, -2, 2), (0, 1, 0), (0, 0, 1)))
        # The determinant is that of the walkers alone.
        self.refuse(3, (1, 2), ((3, -2, 0), (0, 1, 0), (0, 0, 1)))
        self.refuse(3, (), ((3, -2, 0), (0, 1, 0), (0, 0, 1)))
        self.refuse(3, (2,), ((3, 0, -2), (0, 3, -2), (0, 0, 1)))

    def test_composed_tables_of_sixty_digits(self):
        source = random.Random(3)
        start = time.monotonic()
        for persons in (2, 3, 4):
            for posts in all_posts(persons):
                yard = ((0,), persons, posts)
                for bound, size in [(10 ** 28, 2), (10 ** 13, 4), (10 ** 5, 9), (2, 60)]:
                    table = deed_of(persons, random_row(yard, source, size, bound))
                    if digits_of(table) <= 60:
                        self.check(persons, posts, table)
        for times in (1, 5, BIG // 4):
            self.check(2, (), deed_of(2, [(AROUND, times)]))
            self.check(3, (1, 2), ((1, -2 * times, 2 * times), (0, 1, 0), (0, 0, 1)))
        self.assertLess(time.monotonic() - start, 60)

    def test_thousands_of_digits(self):
        for table in [deed_of(2, [(AROUND, HUGE // 4)]), deed_of(3, [(AROUND, 10 ** 900), (((1, 2), (2, 1)), 10 ** 900)])]:
            self.check(len(table), (), table)

    def test_rows_are_new(self):
        table = ((-9, 10), (-10, 11))
        row = row_for(2, (), table)
        again = list(row)
        row.append("mine")
        row.reverse()
        self.assertEqual(row_for(2, (), table), again)
        row_for(2, (), unit(2)).append("mine")
        self.assertEqual(row_for(2, (), unit(2)), [])

    def test_wrong_arguments(self):
        table = ((-1, 2), (0, 1))
        for thing in JUNK + [0, 1, 3, 4, 5, 6, "2", (2,), 2.0, -2]:
            self.refuse(thing, (), table)
            self.refuse(thing, thing, thing)
        for persons in (5, 6, 7, 1, 0):
            self.refuse(persons, (), unit(persons))
        for thing in JUNK + [[], [1], (1, 1), (2,), (-1,), (0, 1), (True,), (1.0,), 1, {1}, "1", (1, 0)]:
            if thing != ():
                self.refuse(2, thing, table)
                self.refuse(2, thing, unit(2))
        for thing in JUNK + [[(-1, 2), (0, 1)], ([-1, 2], [0, 1]), ((-1, 2),), ((-1, 2), (0, 1), (0, 0)), ((-1, 2, 0), (0, 1, 0)),
                             ((-1, 2), (0, True)), ((-1, 2), (False, 1)), ((-1, 2), (0, 1.0)), ((-1, 2), None),
                             ((-1, 2), (0,)), ((-1,), (1,)), unit(3), ((-1, 2), "01"), ((-1, 2), ((0,), (1,)))]:
            self.refuse(2, (), thing)
            self.refuse(2, (0,), thing)


if __name__ == "__main__":
    unittest.main()
