"""Promise 11: makers."""

import itertools
import math
import random
import unittest

from leapfolk.errors import NoStanding, NoYard
from leapfolk.makers import makers
from leapfolk.rows import done
from leapfolk.spans import floor, kept_span, lies_in, settled
from tests.samples import (
    BIG, JUNK, LINE, LINE_OF_THREE, POSTED, RING, YARDS, Unchanged, differences_by_hand, floor_by_hand, generic,
    is_plain, minors_gcd, movers_by_hand, random_row, refusal_class,
)

SMALL_RINGS = [
    ((2,), 3, ()), ((6,), 3, ()), ((8,), 3, (1,)), ((12,), 3, (0, 2)), ((9,), 4, (0, 1)), ((2, 4), 3, ()),
    ((4, 6), 2, ()), ((3, 9), 2, ()), ((2, 4), 3, (0, 1)), ((4, 4), 3, (0, 2)), ((2, 2, 2), 3, ()), ((2, 2, 3), 3, (1,)),
]


def orders_counted(yard, standing, most):
    """Return for each number how many elements of the kept span modulo the floor it brings to 0.

    The elements are gone through one by one, so there must be finitely many.
    """
    rows = floor(yard, standing)
    found = {settled(rows, (0,) * len(yard[0]))}
    waiting = list(found)
    while waiting:
        point = waiting.pop()
        for vector in differences_by_hand(yard, standing):
            after = settled(rows, tuple(a + b for a, b in zip(point, vector)))
            if after not in found:
                found.add(after)
                waiting.append(after)
    return {times: sum(lies_in(rows, tuple(times * n for n in point)) for point in found) for times in range(1, most)}


def makers_by_minors(yard, standing):
    """Return the makers, by the greatest common divisors of the minors of the floor's vectors in the kept span.

    For that the floor is written in multiples of the kept span's rows.
    """
    rows = kept_span(yard, standing)
    table = []
    for vector in floor_by_hand(yard, standing):
        times, rest = [], list(vector)
        for row in rows:
            place = next(k for k, number in enumerate(row) if number)
            times.append(rest[place] // row[place])
            rest = [a - times[-1] * b for a, b in zip(rest, row)]
        assert not any(rest)
        table.append(times)
    found, before = [], 1
    for size in range(1, len(rows) + 1):
        now = minors_gcd(table, size) if size <= len(table) else 0
        found.append(now // before if before and now else 0)
        before = now
    return [maker for maker in found if maker != 1]


class Makers(unittest.TestCase):

    def check(self, yard, standing):
        with Unchanged(self, yard, standing):
            found = makers(yard, standing)
        self.assertIs(type(found), list)
        self.assertTrue(is_plain(found))
        self.assertTrue(all(maker == 0 or maker >= 2 for maker in found))
        for low, high in zip(found, found[1:]):
            self.assertTrue(high == 0 if low == 0 else high % low == 0)
        self.assertLessEqual(len(found), len(movers_by_hand(yard)))
        self.assertEqual(found, makers_by_minors(yard, standing), (yard, standing))
        return found

    def test_ordinary_answers(self):
        self.assertEqual(makers(((2, 4), 3, ()), ((0, 0), (1, 1), (0, 2))), [4])
        self.assertEqual(makers(((4, 6), 3, ()), ((0, 0), (1, 0), (0, 1))), [2, 12])
        self.assertEqual(makers(((0,), 3, (0, 2)), ((0,), (1,), (3,))), [6])
        self.assertEqual(makers(LINE, ((0,), (1,))), [0])
        self.assertEqual(makers(LINE, ((4,), (-9,))), [0])
        self.assertEqual(makers(RING, ((1,), (3,))), [5])
        self.assertEqual(makers(((0, 0), 3, ()), ((0, 0), (1, 0), (0, 1))), [0, 0])
        self.assertEqual(makers(((0, 6), 3, ()), ((0, 0), (1, 0), (0, 1))), [6, 0])
        self.assertEqual(makers(((0, 0), 4, (0, 3)), ((0, 0), (1, 0), (0, 1), (3, 3))), [6, 0])

    def test_empty_lists(self):
        for yard in YARDS:
            self.assertEqual(makers(yard, (generic(yard)[0],) * yard[1]), [])
        # All movers' differences are in the floor.
        self.assertEqual(makers(((0,), 3, (0, 2)), ((0,), (12,), (3,))), [])
        self.assertEqual(makers(((8,), 2, (0,)), ((5,), (5,))), [])

    def test_elements_counted_on_small_rings(self):
        source = random.Random(1)
        for yard in SMALL_RINGS:
            for _ in range(25):
                standing = generic(yard, source.random())
                found = self.check(yard, standing)
                for times, many in orders_counted(yard, standing, 13).items():
                    self.assertEqual(many, math.prod(math.gcd(maker, times) for maker in found))

    def test_elements_counted_with_posts_on_lines(self):
        source = random.Random(2)
        for _ in range(40):
            yard = ((0, 0), 5, (0, 1, 3))
            standing = tuple((source.randint(-3, 3), source.randint(-3, 3)) for _ in range(5))
            found = self.check(yard, standing)
            if 0 not in found:
                for times, many in orders_counted(yard, standing, 9).items():
                    self.assertEqual(many, math.prod(math.gcd(maker, times) for maker in found))

    def test_rings_and_lines_of_any_kind(self):
        source = random.Random(3)
        for ways in [(0,), (12,), (6, 4), (0, 6), (8, 0, 12), (0, 0, 0), (6, 10, 15), (4, 4, 4), (9, 3, 0)]:
            for persons in range(2, 7):
                for many in range(persons):
                    yard = (ways, persons, tuple(sorted(source.sample(range(persons), many))))
                    for bound in (2, 5, 30, BIG):
                        self.check(yard, generic(yard, source.random(), bound))

    def test_long_numbers(self):
        source = random.Random(4)
        for yard in [((BIG,), 3, ()), ((BIG, BIG - 2, 0), 5, (1, 3)), ((0, 0, 0), 6, (0, 1, 2, 3)),
                     ((2 ** 199, 2 ** 150, 6 ** 70), 6, ()), ((0, 0, BIG), 6, (2, 5))]:
            standing = generic(yard, 5, BIG)
            found = self.check(yard, standing)
            after = done(yard, standing, random_row(yard, source, 6, BIG))
            self.assertEqual(makers(yard, after), found)

    def test_very_long_numbers(self):
        far = done(LINE_OF_THREE, ((0,), (1,), (2,)), [(((0, 1), (0, 2)), 10 ** 3990)])
        self.assertEqual(makers(LINE_OF_THREE, far), [0])
        yard = ((0, 0, 10 ** 3990), 6, (1, 2))
        found = makers(yard, generic(yard, 1, 10 ** 3990))
        self.assertEqual(found[-1], 0)
        self.assertNotIn(0, found[:-1])
        self.assertTrue(all(high % low == 0 for low, high in zip(found[:-1], found[1:])))

    def test_rows_change_no_makers(self):
        source = random.Random(5)
        for yard in YARDS:
            standing = generic(yard, 7, 20)
            for _ in range(5):
                after = done(yard, standing, random_row(yard, source, 5, 9))
                self.assertEqual(makers(yard, after), makers(yard, standing))

    def test_vectors_of_the_kept_span_are_counted_in_one_way(self):
        # For small cases some vectors w_t with the stated properties are found by trying all.
        for yard, standing in [(((4, 6), 3, ()), ((0, 0), (1, 0), (0, 1))), (((2, 4), 3, ()), ((0, 0), (1, 1), (0, 2))),
                               (((2, 2, 2), 4, ()), ((0, 0, 0), (1, 0, 0), (0, 1, 0), (1, 1, 1)))]:
            found, rows = makers(yard, standing), floor(yard, standing)
            points = {settled(rows, point) for point in itertools.product(*[range(way) for way in yard[0]])
                      if lies_in(kept_span(yard, standing), point)}
            self.assertTrue(any(
                all(lies_in(rows, tuple(maker * n for n in w)) for maker, w in zip(found, some))
                and len({settled(rows, tuple(sum(c * w[k] for c, w in zip(times, some)) for k in range(len(yard[0]))))
                         for times in itertools.product(*[range(maker) for maker in found])}) == len(points)
                == math.prod(found)
                for some in itertools.product(sorted(points), repeat=len(found))))

    def test_wrong_standings_and_yards(self):
        for thing in JUNK + [[(0,), (1,)], ((0,),), ((0,), [1]), ((0,), (True,)), ((0,), (1,), (2,))]:
            self.assertIs(refusal_class(makers, LINE, thing), NoStanding, thing)
            self.assertIs(refusal_class(makers, thing, ((0,), (1,))), NoYard, thing)
            self.assertIs(refusal_class(makers, thing, thing), NoYard, thing)
        self.assertIs(refusal_class(makers, RING, ((0,), (5,))), NoStanding)
        self.assertIs(refusal_class(makers, POSTED, generic(POSTED)[:3]), NoStanding)


if __name__ == "__main__":
    unittest.main()
