"""Promise 15: homes."""

import random
import time
import unittest

from leapfolk.errors import NoStanding, NoYard
from leapfolk.homes import home
from leapfolk.rows import back, done, leaps_in, row_wrong
from leapfolk.turns import kept
from leapfolk.yards import standing_wrong
from tests.samples import (
    BIG, JUNK, LINE, POSTED, RING, YARDS, Unchanged, classes_of, digits_of, generic, is_plain, random_row,
    refusal_class,
)

# As many movers as makers and more; makers that are 0, odd, even and 2; none, one and several posts.
RINGS = [
    ((2,), 2, ()), ((5,), 2, ()), ((12,), 2, ()), ((4,), 3, ()), ((6,), 3, ()), ((9,), 3, ()), ((5, 5), 2, ()),
    ((3, 3), 3, ()), ((2, 4), 2, ()), ((3, 6), 2, ()), ((2, 2), 3, ()), ((2, 2, 2), 3, ()), ((4,), 4, ()), ((3,), 5, ()),
    ((2,), 6, ()), ((7,), 2, (0,)), ((7,), 2, (1,)), ((8,), 3, (1,)), ((9,), 3, (0, 2)), ((12,), 3, (1, 2)),
    ((3, 3), 3, (2,)), ((4, 2), 3, (0,)), ((4, 4), 2, (1,)), ((5,), 4, (1, 3)), ((2,), 6, (1, 2)), ((2, 3), 3, (0, 1)),
]
GROUNDS = [
    (0,), (0, 0), (0, 0, 0), (12,), (7, 7), (0, 6), (0, 0, 10), (9, 0, 15), (4, 6, 10), (8, 8, 8), (0, 5, 5),
]
LONG_GROUNDS = [
    (0,), (0, 0), (0, 0, 0), (BIG,), (2 ** 199, 2 ** 150), (BIG, BIG - 1, BIG - 2), (0, 0, BIG), (BIG, 0, 0),
    (3 ** 125, 3 ** 120, 3 ** 20), (0, BIG, BIG),
]


def close_numbers(yard, source, bound):
    """Return a standing whose numbers are chosen to make long ways down: close ones, powers, numbers of Fibonacci."""
    small, large = 1, 2
    while small + large <= bound:
        small, large = large, small + large
    def number():
        return source.choice([bound, bound - 1, bound // 2, large, small, 2 ** (bound.bit_length() - 1), 1, 0,
                              source.randint(0, bound)])
    ways, persons, _ = yard
    return tuple(
        tuple(number() % way if way else number() * source.choice([1, -1]) for way in ways) for _ in range(persons)
    )


class Home(unittest.TestCase):

    def check(self, yard, standing):
        with Unchanged(self, yard, standing):
            answer = home(yard, standing)
        self.assertIs(type(answer), tuple)
        self.assertTrue(is_plain(answer))
        end, row = answer
        self.assertIs(type(row), list)
        self.assertIsNone(row_wrong(yard, row))
        self.assertIsNone(standing_wrong(yard, end))
        self.assertEqual(done(yard, standing, row), end)
        digits = max(digits_of(yard), digits_of(standing))
        self.assertLessEqual(len(row), 5000 * digits)
        if digits <= 60:
            self.assertLessEqual(digits_of(row), 4000)
            self.assertLessEqual(digits_of(end), 4000)
        return end

    def test_all_standings_of_small_rings(self):
        for yard in RINGS:
            ends, seen = {}, {}
            for standing, number in classes_of(yard).items():
                end = self.check(yard, standing)
                self.assertEqual(ends.setdefault(number, end), end, (yard, standing))
                self.assertEqual(seen.setdefault(end, number), number, (yard, standing))

    def test_home_of_a_home_is_itself(self):
        for yard in RINGS:
            for seed in range(5):
                end = self.check(yard, generic(yard, seed))
                self.assertEqual(self.check(yard, end), end)

    def test_rows_lead_to_standings_with_the_same_home(self):
        source = random.Random(1)
        for ways in GROUNDS:
            for persons in range(2, 7):
                for many in {0, 1, source.randrange(persons), persons - 1}:
                    yard = (ways, persons, tuple(sorted(source.sample(range(persons), many))))
                    standing = generic(yard, source.random(), source.choice([1, 3, 9, 100]))
                    end = self.check(yard, standing)
                    for bound in (1, 5, 10 ** 20):
                        after = done(yard, standing, random_row(yard, source, 5, bound))
                        self.assertEqual(self.check(yard, after), end)

    def test_equal_exactly_where_kept_is_equal(self):
        source = random.Random(2)
        for ways in GROUNDS:
            for posts in [(), (1,), (0, 2)]:
                yard = (ways, 4, posts)
                standings = [generic(yard, source.random(), 2) for _ in range(6)]
                standings += [tuple(standings[0][k] if k in posts else point for k, point in enumerate(standing))
                              for standing in standings]
                for one in standings:
                    for other in standings:
                        self.assertIs(home(yard, one)[0] == home(yard, other)[0], kept(yard, one) == kept(yard, other))

    def test_small_numbers_take_few_runs(self):
        source = random.Random(3)
        for bound in (1, 2, 5, 9, 99):
            for ways in [(0,), (0, 0), (0, 0, 0), (9, 0, 0), (8, 9, 7), (2, 2, 2)]:
                for posts in [(), (0,), (2, 3), (0, 1, 4)]:
                    yard = (ways, 6, posts)
                    for _ in range(4):
                        self.check(yard, close_numbers(yard, source, bound))

    def test_all_on_one_point(self):
        for yard in YARDS + [(ways, 5, posts) for ways in GROUNDS for posts in [(), (2,), (1, 3)]]:
            standing = (generic(yard)[0],) * yard[1]
            self.assertEqual(self.check(yard, standing), standing)

    def test_sixty_digits(self):
        source = random.Random(4)
        start = time.monotonic()
        for ways in LONG_GROUNDS:
            for persons in range(2, 7):
                for many in {0, source.randrange(persons), persons - 1}:
                    yard = (ways, persons, tuple(sorted(source.sample(range(persons), many))))
                    self.check(yard, generic(yard, source.random(), BIG))
                    self.check(yard, close_numbers(yard, source, BIG))
        self.assertLess(time.monotonic() - start, 120)

    def test_sixty_digits_after_a_row(self):
        source = random.Random(5)
        for ways in LONG_GROUNDS:
            for posts in [(), (3,), (0, 4)]:
                yard = (ways, 5, posts)
                standing = generic(yard, source.random(), BIG)
                end = self.check(yard, standing)
                self.assertEqual(self.check(yard, done(yard, standing, random_row(yard, source, 4, BIG))), end)

    def test_standings_with_thousands_of_digits(self):
        source = random.Random(6)
        for yard in [((0,), 3, ()), ((0, 0), 4, (1,)), ((0, 0, 0), 4, ()), ((0, 12), 5, (0, 2)), ((BIG, 0), 3, ())]:
            standing = generic(yard, 2, BIG)
            far = done(yard, standing, random_row(yard, source, 5, 10 ** 600))
            self.assertLessEqual(digits_of(far), 4000)
            self.assertEqual(self.check(yard, far), home(yard, standing)[0])

    def test_the_way_back(self):
        for yard in YARDS:
            standing = generic(yard, 4, BIG)
            end, row = home(yard, standing)
            self.assertEqual(done(yard, end, back(row)), standing)
            self.assertGreaterEqual(leaps_in(row), len(row))

    def test_same_answer_again_and_rows_are_new(self):
        for yard in YARDS:
            standing = generic(yard, 8, 50)
            end, row = home(yard, standing)
            again = list(row)
            row.append("mine")
            row.reverse()
            self.assertEqual(home(yard, standing), (end, again))

    def test_wrong_standings_and_yards(self):
        for thing in JUNK + [[(0,), (1,)], ((0,),), ((0,), [1]), ((0,), (True,)), ((0,), (1,), (2,))]:
            self.assertIs(refusal_class(home, LINE, thing), NoStanding, thing)
            self.assertIs(refusal_class(home, thing, ((0,), (1,))), NoYard, thing)
            self.assertIs(refusal_class(home, thing, thing), NoYard, thing)
        self.assertIs(refusal_class(home, RING, ((0,), (5,))), NoStanding)
        self.assertIs(refusal_class(home, POSTED, generic(POSTED)[:3]), NoStanding)


if __name__ == "__main__":
    unittest.main()
