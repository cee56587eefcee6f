"""Promises 7 and 8: rows, what they do, and how they are undone."""

import itertools
import random
import unittest

from leapfolk.errors import NoRow, NoStanding, NoYard
from leapfolk.rows import back, done, is_steady, leaps_in, row_wrong
from leapfolk.yards import leapt, standing_wrong
from tests.samples import (
    ALL_BUT_ONE, BIG, HUGE, JUNK, LINE, LINE_OF_THREE, MIXED, POSTED, RING, YARDS, generic, leap_by_hand,
    refusal_class, row_by_hand, steady_by_matrix, walkers_over,
)

SIX = ((0,), 6, ())
AROUND = ((0, 1), (1, 0))       # each of two leaps over the other, which is steady
OVER_TWO = ((0, 1), (0, 2))     # one leaps over two others, which is steady


def steady_pairs(yard):
    """Return some steady tuples of leaps of the yard."""
    leaps = walkers_over(yard)
    return [pair for pair in itertools.product(leaps, leaps) if steady_by_matrix(yard[1], pair)]


def mixed_row(yard, seed, runs):
    """Return a row of the yard with runs that are done once and steady runs that are done a few times."""
    source = random.Random(seed)
    leaps, pairs = walkers_over(yard), steady_pairs(yard)
    row = []
    for _ in range(runs):
        if source.randrange(2):
            row.append((source.choice(pairs), source.randint(1, 5)))
        else:
            row.append((tuple(source.choice(leaps) for _ in range(source.randint(1, 4))), 1))
    return row


class Steady(unittest.TestCase):

    def test_ordinary_answers(self):
        self.assertIs(is_steady(2, ((0, 1),)), False)
        self.assertIs(is_steady(2, AROUND), True)
        self.assertIs(is_steady(3, OVER_TWO), True)
        self.assertIs(is_steady(2, ((0, 1), (0, 1))), True)
        self.assertIs(is_steady(3, ((0, 1), (1, 2))), False)
        self.assertIs(is_steady(3, ((0, 1), (1, 0), (2, 0))), False)
        self.assertIs(is_steady(6, ((4, 5), (5, 4))), True)
        self.assertIs(is_steady(6, ((0, 1), (0, 2), (3, 4), (3, 5))), True)
        self.assertIs(is_steady(4, ((0, 1), (1, 0), (2, 3), (3, 2))), True)

    def test_every_tuple_of_up_to_three_leaps(self):
        for persons in (2, 3, 4):
            leaps = walkers_over(((0,), persons, ()))
            for many in (1, 2, 3):
                for some in itertools.product(leaps, repeat=many):
                    self.assertIs(is_steady(persons, some), steady_by_matrix(persons, some), some)

    def test_steady_leaps_move_every_standing_alike(self):
        leaps = walkers_over(SIX)
        source = random.Random(7)
        seen = []
        for _ in range(400):
            some = tuple(source.choice(leaps) for _ in range(source.randint(2, 5)))
            start = generic(SIX, source.randrange(10 ** 6), BIG)
            once = row_by_hand(SIX, start, [(some, 1)])
            twice = row_by_hand(SIX, once, [(some, 1)])
            alike = all(c[0] - b[0] == b[0] - a[0] for a, b, c in zip(start, once, twice))
            self.assertIs(is_steady(6, some), alike)
            seen.append(alike)
        self.assertIn(True, seen)
        self.assertIn(False, seen)

    def test_more_persons_change_nothing(self):
        for persons in (3, 4, 5, 6):
            self.assertIs(is_steady(persons, AROUND), True)
            self.assertIs(is_steady(persons, OVER_TWO), True)
            self.assertIs(is_steady(persons, ((1, 2),)), False)

    def test_forty_leaps(self):
        self.assertIs(is_steady(2, AROUND * 20), True)
        self.assertIs(is_steady(2, ((0, 1),) * 40), True)
        self.assertIs(is_steady(2, ((0, 1),) * 39), False)
        self.assertIs(is_steady(3, ((0, 1), (1, 2)) * 20), steady_by_matrix(3, ((0, 1), (1, 2)) * 20))

    def test_wrong_persons(self):
        for persons in [thing for thing in JUNK] + [0, BIG, -2, (2,), [2], "2", 2.0]:
            self.assertIs(refusal_class(is_steady, persons, AROUND), NoRow, persons)
            self.assertIs(refusal_class(is_steady, persons, None), NoRow, persons)

    def test_wrong_leaps(self):
        wrong = JUNK + [
            [(0, 1)], ([0, 1],), ((0, 1), [1, 0]), ((0, 0),), ((0, 2),), ((0, -1),), ((True, 0),), ((0, True),), (0, 1),
            ((0,),), ((0, 1, 1),), ((0, 1), None), ((0, 1), (1, "0")), ((0, 1),) * 41, AROUND * 21, (AROUND,),
            ((0, BIG),), (((0,), 1),), ((0, [1]),), ((0, 1.0),),
        ]
        for leaps in wrong:
            self.assertIs(refusal_class(is_steady, 2, leaps), NoRow, leaps)
        self.assertIs(refusal_class(is_steady, 5, ((0, 5),)), NoRow)
        self.assertIs(refusal_class(is_steady, 6, ((0, 6),)), NoRow)
        self.assertIs(is_steady(6, ((0, 5),)), False)


class RowWrong(unittest.TestCase):

    def test_rows(self):
        for yard in YARDS:
            for seed in range(3):
                self.assertIsNone(row_wrong(yard, mixed_row(yard, seed, 5)))
            self.assertIsNone(row_wrong(yard, []))

    def test_edges_that_are_rows(self):
        self.assertIsNone(row_wrong(LINE, [(AROUND * 20, BIG)]))
        self.assertIsNone(row_wrong(LINE, [(((0, 1),) * 40, 1)]))
        self.assertIsNone(row_wrong(LINE, [(((0, 1),), 1), (AROUND, HUGE)]))
        self.assertIsNone(row_wrong(LINE, [(AROUND, BIG)] * 300))
        self.assertIsNone(row_wrong(ALL_BUT_ONE, [(((3, 0), (3, 5)), BIG)]))

    def test_what_is_no_list(self):
        for thing in JUNK + [((AROUND, 1),), (AROUND, 1), iter([(AROUND, 1)]), {0: (AROUND, 1)}]:
            if not isinstance(thing, list):
                self.assertEqual(row_wrong(LINE, thing), ("row",), thing)

    def test_wrong_runs(self):
        wrong = JUNK + [
            [AROUND, 1], (AROUND,), (AROUND, 1, 1), (list(AROUND), 1), ((), 1), (((0, 1),) * 41, 1), (None, 1),
            (True, 1), ("ab", 1), (0, 1), (1, AROUND), ([], []), (range(2), 1),
        ]
        for run in wrong:
            # Junk such as ((), ()) has two items, of which the first is no tuple of one to forty items either.
            self.assertEqual(row_wrong(LINE, [run]), ("run", 0), run)
            self.assertEqual(row_wrong(LINE, [(AROUND, 3), run, None]), ("run", 1), run)

    def test_wrong_leaps(self):
        wrong = JUNK + [[0, 1], (0, 0), (0, 2), (2, 0), (-1, 1), (True, 0), (0, True), (0,), (0, 1, 0), (0, None),
                        ("0", 1)]
        for leap in wrong:
            self.assertEqual(row_wrong(LINE, [((leap,), 1)]), ("leap", 0, 0), leap)
            self.assertEqual(row_wrong(LINE, [(((0, 1), (1, 0), leap, None), 1)]), ("leap", 0, 2), leap)
            self.assertEqual(row_wrong(LINE, [(AROUND, 2), (((0, 1), leap), 1)]), ("leap", 1, 1), leap)
        self.assertEqual(row_wrong(LINE, [(((0, 1),) * 39 + (None,), 1)]), ("leap", 0, 39))

    def test_posts_do_not_leap_in_rows(self):
        self.assertEqual(row_wrong(POSTED, [(((0, 1), (1, 0)), 1)]), ("leap", 0, 1))
        self.assertIsNone(row_wrong(POSTED, [(((0, 1), (2, 3)), 1)]))
        for post in (0, 1, 2, 4, 5):
            self.assertEqual(row_wrong(ALL_BUT_ONE, [(((post, 3),), 1)]), ("leap", 0, 0))

    def test_wrong_times(self):
        for times in [None, True, False, 0, -1, -BIG, -HUGE, "1", "", 1.0, (1,), [1], (), [], {}]:
            self.assertEqual(row_wrong(LINE, [(AROUND, times)]), ("times", 0), times)
            self.assertEqual(row_wrong(LINE, [(AROUND, 4), (((0, 1),), times)]), ("times", 1), times)

    def test_leaps_that_are_not_steady(self):
        for times in (2, 3, BIG, HUGE):
            self.assertEqual(row_wrong(LINE, [(((0, 1),), times)]), ("steady", 0))
            self.assertEqual(row_wrong(LINE_OF_THREE, [(AROUND, times), (((0, 1), (1, 2)), times)]), ("steady", 1))
        self.assertIsNone(row_wrong(LINE, [(((0, 1),), 1)]))
        self.assertEqual(row_wrong(LINE, [(((0, 1),), 1), (((0, 1),), 2)]), ("steady", 1))
        self.assertEqual(row_wrong(LINE, [(((0, 1),), 2), (((0, 1),), 1)]), ("steady", 0))

    def test_steady_is_asked_for_every_ground(self):
        # On a ring of two points this leap moves nobody, but on others it is not steady.
        self.assertEqual(row_wrong(((2,), 2, ()), [(((0, 1),), 2)]), ("steady", 0))
        self.assertIs(refusal_class(done, ((2,), 2, ()), ((0,), (0,)), [(((0, 1),), 2)]), NoRow)

    def test_first_wrong_thing_is_told(self):
        self.assertEqual(row_wrong(LINE, [(((0, 1), None), 0)]), ("leap", 0, 1))
        self.assertEqual(row_wrong(LINE, [(((0, 1),), 0)]), ("times", 0))
        self.assertEqual(row_wrong(LINE, [(((0, 0), None), True)]), ("leap", 0, 0))
        self.assertEqual(row_wrong(LINE, [(((0, 1),), 2), None]), ("steady", 0))
        self.assertEqual(row_wrong(LINE, [(((0, 1),), 1), (AROUND, 0), (((0, 1),), 2)]), ("times", 1))
        self.assertEqual(row_wrong(LINE, [((None,) * 41, 0)]), ("run", 0))
        self.assertEqual(row_wrong(LINE, ([None],)), ("row",))
        self.assertEqual(row_wrong(LINE, [(AROUND, 1)] * 299 + [(AROUND, 0)]), ("times", 299))

    def test_wrong_yards(self):
        for yard in JUNK + [[(0,), 2, ()], ((0,), 2, (0, 1)), ((1,), 2, ())]:
            for thing in ([], None, [(AROUND, 1)], [None]):
                self.assertIs(refusal_class(row_wrong, yard, thing), NoYard, yard)


class Done(unittest.TestCase):

    def test_ordinary_rows(self):
        self.assertEqual(done(LINE, ((0,), (1,)), []), ((0,), (1,)))
        self.assertEqual(done(LINE, ((0,), (1,)), [(((0, 1),), 1)]), ((2,), (1,)))
        self.assertEqual(done(LINE, ((0,), (1,)), [(AROUND, 1)]), ((2,), (3,)))
        self.assertEqual(done(LINE, ((0,), (1,)), [(AROUND, 5)]), ((10,), (11,)))
        self.assertEqual(done(RING, ((0,), (1,)), [(AROUND, 4)]), ((3,), (4,)))
        self.assertEqual(done(((0,), 3, (1, 2)), ((5,), (1,), (4,)), [(((0, 1), (0, 2)), 10)]), ((65,), (1,), (4,)))

    def test_one_run_done_once_is_its_leaps(self):
        for yard in YARDS:
            standing = generic(yard)
            for leap in walkers_over(yard):
                self.assertEqual(done(yard, standing, [((leap,), 1)]), leapt(yard, standing, leap))

    def test_rows_of_several_runs(self):
        for yard in YARDS:
            for seed in range(4):
                standing = generic(yard, seed, 50)
                row = mixed_row(yard, seed, 6)
                after = done(yard, standing, row)
                self.assertEqual(after, row_by_hand(yard, standing, row))
                self.assertIsNone(standing_wrong(yard, after))

    def test_all_on_one_point_stay(self):
        for yard in YARDS:
            standing = (generic(yard)[0],) * yard[1]
            self.assertEqual(done(yard, standing, mixed_row(yard, 3, 6)), standing)

    def test_forty_leaps(self):
        leaps = tuple(walkers_over(MIXED)[k * 7 % 30] for k in range(40))
        standing = generic(MIXED)
        self.assertEqual(done(MIXED, standing, [(leaps, 1)]), row_by_hand(MIXED, standing, [(leaps, 1)]))
        self.assertEqual(done(LINE, ((0,), (1,)), [(AROUND * 20, BIG)]), ((40 * BIG,), (40 * BIG + 1,)))

    def test_times_of_many_digits_on_lines(self):
        for times in (BIG, HUGE, 10 ** 59):
            self.assertEqual(done(LINE, ((0,), (1,)), [(AROUND, times)]), ((2 * times,), (2 * times + 1,)))
            self.assertEqual(done(LINE, ((1,), (0,)), [(AROUND, times)]), ((1 - 2 * times,), (-2 * times,)))
            self.assertEqual(done(LINE_OF_THREE, ((5,), (-BIG,), (BIG,)), [(OVER_TWO, times)]),
                             ((5 + 4 * BIG * times,), (-BIG,), (BIG,)))

    def test_times_of_many_digits_on_rings(self):
        # On a ring of n points, n times as often makes no difference.
        for size in (2, 3, 5, 12):
            for persons in (2, 3, 6):
                yard = ((size,), persons, ())
                for pair in steady_pairs(yard)[:12]:
                    standing = generic(yard, size)
                    few = row_by_hand(yard, standing, [(pair, 1 + BIG % size)])
                    self.assertEqual(done(yard, standing, [(pair, BIG + 1)]), few)

    def test_times_of_many_digits_add_up(self):
        for yard in YARDS:
            standing = generic(yard, 5, BIG)
            for pair in steady_pairs(yard)[:6]:
                whole = done(yard, standing, [(pair, BIG + 2)])
                self.assertEqual(whole, done(yard, standing, [(pair, BIG), (pair, 1), (pair, 1)]))
                self.assertEqual(whole, leap_by_leap(yard, done(yard, standing, [(pair, BIG + 1)]), pair))

    def test_three_hundred_runs(self):
        row = [(AROUND, BIG), (((0, 1),), 1), (((1, 0),), 1)] * 100
        standing = ((3,), (8,))
        expected = standing
        for leaps, times in row:
            (a,), (b,) = expected
            moves = {AROUND: ((a + 2 * times * (b - a),), (b + 2 * times * (b - a),)),
                     ((0, 1),): ((2 * b - a,), (b,)), ((1, 0),): ((a,), (2 * a - b,))}
            expected = moves[leaps]
        self.assertEqual(done(LINE, standing, row), expected)

    def test_a_long_row(self):
        row = [(AROUND, 3)] * 20000
        self.assertEqual(done(LINE, ((0,), (1,)), row), ((120000,), (120001,)))
        self.assertEqual(done(LINE, done(LINE, ((0,), (1,)), row), back(row)), ((0,), (1,)))
        self.assertEqual(leaps_in(row), 120000)

    def test_wrong_rows(self):
        wrong = [thing for thing in JUNK] + [
            ((AROUND, 1),), [(AROUND, 0)], [(AROUND, True)], [(AROUND, "2")], [[AROUND, 1]], [(list(AROUND), 1)],
            [((), 1)], [(((0, 1),) * 41, 1)], [(((0, 1),), 2)], [(((0, 2),), 1)], [(AROUND, 1), None], [(AROUND,)],
            [(AROUND, 1, 1)], AROUND, [AROUND],
        ]
        for row in wrong:
            self.assertIs(refusal_class(done, LINE, ((0,), (1,)), row), NoRow, row)
        self.assertIs(refusal_class(done, POSTED, generic(POSTED), [(((1, 0),), 1)]), NoRow)

    def test_order_of_refusals(self):
        for thing in JUNK:
            self.assertIs(refusal_class(done, thing, ((0,), (1,)), []), NoYard)
            self.assertIs(refusal_class(done, thing, thing, thing), NoYard)
            self.assertIs(refusal_class(done, thing, ((0,), (1,)), None), NoYard)
            self.assertIs(refusal_class(done, LINE, thing, []), NoStanding)
            self.assertIs(refusal_class(done, LINE, thing, thing), NoStanding)
            self.assertIs(refusal_class(done, LINE, [(0,), (1,)], None), NoStanding)


def leap_by_leap(yard, standing, leaps):
    """Return the standing after the leaps."""
    for leap in leaps:
        standing = leap_by_hand(yard, standing, leap)
    return standing


class BackAndLeapsIn(unittest.TestCase):

    def test_back_of_ordinary_rows(self):
        self.assertEqual(back([]), [])
        self.assertEqual(back([(((0, 1), (0, 2), (3, 5)), 1), (((4, 5), (5, 4)), 7)]),
                         [(((5, 4), (4, 5)), 7), (((3, 5), (0, 2), (0, 1)), 1)])

    def test_back_undoes(self):
        for yard in YARDS:
            for seed in range(3):
                standing = generic(yard, seed)
                row = mixed_row(yard, seed, 5) + [(pair, BIG + k) for k, pair in enumerate(steady_pairs(yard)[:4])]
                undoing = back(row)
                self.assertIsNone(row_wrong(yard, undoing))
                self.assertEqual(done(yard, done(yard, standing, row), undoing), standing)
                self.assertEqual(back(undoing), row)

    def test_edges(self):
        row = [(((0, 1),) * 39 + ((5, 4),), 1)] + [(AROUND, BIG)] * 300
        self.assertEqual(back(row), [(AROUND[::-1], BIG)] * 300 + [(((5, 4),) + ((0, 1),) * 39, 1)])
        self.assertEqual(leaps_in(row), 40 + 600 * BIG)

    def test_leaps_in_ordinary_rows(self):
        self.assertEqual(leaps_in([]), 0)
        self.assertEqual(leaps_in([(((0, 1),), 1)]), 1)
        self.assertEqual(leaps_in([(AROUND, 5)]), 10)
        self.assertEqual(leaps_in([(AROUND, 5), (((0, 1), (2, 1), (5, 4)), 1)]), 13)
        self.assertEqual(leaps_in([(AROUND * 20, HUGE)]), 40 * HUGE)

    def test_wrong_rows(self):
        wrong = JUNK + [
            ((AROUND, 1),), [(AROUND, 0)], [(AROUND, -BIG)], [(AROUND, False)], [[AROUND, 1]], [(list(AROUND), 1)],
            [((), 1)], [(((0, 1),) * 41, 1)], [(((0, 1),), 2)], [(((0, 6),), 1)], [(((6, 0),), 1)], [(((0, 0),), 1)],
            [(AROUND, 1), (AROUND, None)], AROUND, (AROUND, 1),
        ]
        for row in wrong:
            self.assertIs(refusal_class(back, row), NoRow, row)
            self.assertIs(refusal_class(leaps_in, row), NoRow, row)


if __name__ == "__main__":
    unittest.main()
