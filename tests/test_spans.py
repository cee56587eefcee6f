"""Promises 9 and 10: vectors, lattices by their reduced rows, and the spans and floors of standings."""

import itertools
import random
import time
import unittest

from leapfolk.errors import NoStanding, NoVector, NoYard
from leapfolk.rows import done
from leapfolk.spans import floor, kept_span, lies_in, reduced, settled, span
from tests.samples import (
    BIG, HUGE, JUNK, LINE, LINE_OF_THREE, POSTED, RING, YARDS, Unchanged, differences_by_hand, digits_of,
    floor_by_hand, generic, has_reduced_form, in_lattice, is_plain, minus, random_row, refusal_class, rings_by_hand,
    same_lattice, standings_of,
)


def random_vectors(source, width, many, bound):
    """Return vectors of any rank: some with numbers of their own, others sums of multiples of those."""
    rank = source.randint(0, width)
    roots = [tuple(source.randint(-bound, bound) for _ in range(width)) for _ in range(rank)]
    vectors = list(roots[:source.randint(0, rank)])
    while len(vectors) < many:
        times = [source.randint(-3, 3) for _ in roots]
        vectors.append(tuple(sum(t * root[k] for t, root in zip(times, roots)) for k in range(width)))
    source.shuffle(vectors)
    return vectors


def reduced_lists(source, many, bound):
    """Return pairs (width, reduced rows) of lattices of all ranks."""
    found = []
    for _ in range(many):
        width = source.randint(1, 3)
        found.append((width, reduced(width, random_vectors(source, width, source.randint(0, 4), bound))))
    return found


class Reduced(unittest.TestCase):

    def check(self, width, vectors):
        with Unchanged(self, vectors):
            rows = reduced(width, vectors)
        self.assertIs(type(rows), list)
        self.assertTrue(is_plain(rows))
        self.assertTrue(has_reduced_form(rows, width), rows)
        self.assertTrue(same_lattice(rows, vectors), (vectors, rows))
        return rows

    def test_ordinary_answers(self):
        self.assertEqual(reduced(2, [(2, 1), (0, 3), (4, 5)]), [(2, 1), (0, 3)])
        self.assertEqual(reduced(1, [(6,), (10,), (-15,)]), [(1,)])
        self.assertEqual(reduced(1, [(-6,)]), [(6,)])
        self.assertEqual(reduced(3, [(1, 2, 3), (4, 5, 6), (7, 8, 9)]), [(1, 2, 3), (0, 3, 6)])
        self.assertEqual(reduced(3, [(0, 0, -4), (0, 2, 5), (0, 0, 6)]), [(0, 2, 1), (0, 0, 2)])
        self.assertEqual(reduced(2, [(0, 7)]), [(0, 7)])
        self.assertEqual(reduced(2, [(3, 7), (0, 2)]), [(3, 1), (0, 2)])
        self.assertEqual(reduced(2, [(3, -7), (0, 2)]), [(3, 1), (0, 2)])

    def test_no_vectors_and_zeros(self):
        for width in (1, 2, 3):
            self.assertEqual(reduced(width, []), [])
            self.assertEqual(reduced(width, [(0,) * width]), [])
            self.assertEqual(reduced(width, [(0,) * width] * 4), [])
            self.assertEqual(reduced(width, [(0,) * width, (-5,) * width, (0,) * width]), [(5,) * width])

    def test_lattices_of_any_rank(self):
        source = random.Random(1)
        for _ in range(1500):
            width, bound = source.randint(1, 3), source.choice([2, 6, 50, BIG])
            self.check(width, random_vectors(source, width, source.randint(0, 6), bound))

    def test_numbers_without_any_order(self):
        source = random.Random(2)
        for bound in (1, 3, 10, 1000, BIG):
            for _ in range(150):
                width = source.randint(1, 3)
                many = source.randint(1, 6)
                self.check(width, [tuple(source.randint(-bound, bound) for _ in range(width)) for _ in range(many)])

    def test_there_is_exactly_one_list(self):
        source = random.Random(3)
        for _ in range(300):
            width = source.randint(1, 3)
            vectors = random_vectors(source, width, source.randint(1, 5), 40)
            rows = reduced(width, vectors)
            self.assertEqual(reduced(width, rows), rows)
            self.assertEqual(reduced(width, vectors[::-1] + rows), rows)
            changed = [tuple(-number for number in vector) for vector in vectors]
            changed[0] = tuple(a + 7 * b for a, b in zip(changed[0], changed[-1])) if len(changed) > 1 else changed[0]
            self.assertEqual(reduced(width, changed), rows)

    def test_small_lattices_point_by_point(self):
        source = random.Random(4)
        for _ in range(60):
            vectors = [(source.randint(-4, 4), source.randint(-4, 4)) for _ in range(2)] + [(12, 0), (0, 12)]
            rows = self.check(2, vectors)
            sums = {tuple(sum(t * v[k] for t, v in zip(times, vectors)) % 12 for k in range(2))
                    for times in itertools.product(range(12), repeat=2)}
            for point in itertools.product(range(-12, 24), repeat=2):
                self.assertIs(lies_in(rows, point), tuple(number % 12 for number in point) in sums)

    def test_many_vectors(self):
        source = random.Random(5)
        vectors = [tuple(6 * source.randint(-BIG, BIG) for _ in range(3)) for _ in range(300)]
        self.assertEqual(self.check(3, vectors[:12]), [(6, 0, 0), (0, 6, 0), (0, 0, 6)])
        self.assertEqual(reduced(3, vectors), [(6, 0, 0), (0, 6, 0), (0, 0, 6)])

    def test_very_long_numbers_take_a_short_time(self):
        source = random.Random(6)
        start = time.monotonic()
        vectors = [tuple(source.randint(-HUGE, HUGE) for _ in range(3)) for _ in range(3)]
        rows = reduced(3, vectors)
        self.assertTrue(has_reduced_form(rows, 3))
        self.assertTrue(all(in_lattice(rows, vector) for vector in vectors))
        self.assertLess(time.monotonic() - start, 20)

    def test_wrong_widths(self):
        for width in JUNK + [0, -1, 4, BIG, "1", (1,), [1], 1.0, 3.0]:
            if type(width) is int and 1 <= width <= 3:
                continue
            for vectors in ([], [(1,)], None, [(1, 2, 3)], [None]):
                self.assertIs(refusal_class(reduced, width, vectors), NoVector, width)

    def test_wrong_vectors(self):
        for width in (1, 2, 3):
            right = (1,) * width
            for vectors in JUNK + [(right,), (right, right), right, iter([right]), {right: 1}, {right}]:
                if not isinstance(vectors, list):
                    self.assertIs(refusal_class(reduced, width, vectors), NoVector, vectors)
            wrong = JUNK + [list(right), (1,) * (width + 1), (1,) * (width - 1), (True,) * width, (None,) * width,
                            ("1",) * width, (1.0,) * width, right[1:] + (False,), right[1:] + ((1,),), width]
            for vector in wrong:
                for vectors in ([vector], [right, vector], [vector, right], [right, right, vector]):
                    self.assertIs(refusal_class(reduced, width, vectors), NoVector, vectors)


class LiesInAndSettled(unittest.TestCase):

    def test_ordinary_answers(self):
        rows = [(2, 1), (0, 3)]
        self.assertIs(lies_in(rows, (4, 5)), True)
        self.assertIs(lies_in(rows, (4, 4)), False)
        self.assertIs(lies_in(rows, (0, 0)), True)
        self.assertEqual(settled(rows, (4, 4)), (0, 2))
        self.assertEqual(settled(rows, (-1, 0)), (1, 1))
        self.assertEqual(settled([(0, 5, 2)], (7, -1, 4)), (7, 4, 6))
        self.assertEqual(settled([(4,)], (-3,)), (1,))

    def test_no_rows(self):
        for vector in [(0,), (3,), (-BIG,), (0, 0), (0, -1), (5, 6, 7), (0, 0, 0), (0, 0, HUGE)]:
            self.assertEqual(settled([], vector), vector)
            self.assertIs(lies_in([], vector), not any(vector))

    def test_settled_is_what_the_document_says(self):
        source = random.Random(7)
        for bound in (3, 20, BIG):
            for width, rows in reduced_lists(source, 200, bound):
                vector = tuple(source.randint(-5 * bound, 5 * bound) for _ in range(width))
                with Unchanged(self, rows, vector):
                    found = settled(rows, vector)
                    inside = lies_in(rows, vector)
                self.assertIs(type(found), tuple)
                self.assertTrue(is_plain(found))
                self.assertTrue(in_lattice(rows, minus(vector, found)))
                for row in rows:
                    place = next(k for k, number in enumerate(row) if number)
                    self.assertTrue(0 <= found[place] < row[place])
                self.assertIs(inside, not any(found))
                self.assertIs(inside, in_lattice(rows, vector))
                self.assertEqual(settled(rows, found), found)

    def test_vectors_that_differ_by_the_lattice_are_settled_alike(self):
        source = random.Random(8)
        for width, rows in reduced_lists(source, 300, 9):
            vector = tuple(source.randint(-BIG, BIG) for _ in range(width))
            times = [source.randint(-BIG, BIG) for _ in rows]
            other = tuple(vector[k] + sum(t * row[k] for t, row in zip(times, rows)) for k in range(width))
            self.assertEqual(settled(rows, other), settled(rows, vector))
            self.assertIs(lies_in(rows, minus(other, vector)), True)

    def test_wrong_rows(self):
        wrong = JUNK + [
            ((2, 1),), ((2, 1), (0, 3)), (2, 1), [[2, 1]], [(2, 1), [0, 3]], [(2, 1, 0)], [(2,)], [(0, 0)],
            [(2, 1), (0, 0)], [(0, 0), (2, 1)], [(0, 3), (2, 1)], [(-2, 1)], [(0, -3)], [(2, 1), (0, -3)],
            [(2, 3), (0, 3)], [(2, -1), (0, 3)], [(2, 4), (0, 3)], [(2, 1), (4, 5)], [(2, 1), (0, 3), (0, 3)],
            [(2, 1), (0, 3), (0, 5)], [(2, 1), (2, 1)], [(1, 0), (0, 1), (0, 0)], [(True, 0)], [(2, True), (0, 3)],
            [(2, None)], [("2", 1)], [(2.0, 1)], [(2, 1), (0, 3), None], [((2, 1), (0, 3))], [()], [(2, 1), ()],
        ]
        for rows in wrong:
            if rows == [] and isinstance(rows, list):
                continue
            for call in (lies_in, settled):
                self.assertIs(refusal_class(call, rows, (1, 1)), NoVector, rows)
        self.assertIs(refusal_class(settled, [(1, 0, 0), (0, 0, 1), (0, 1, 0)], (0, 0, 0)), NoVector)
        self.assertIs(refusal_class(settled, [(1, 0, 2), (0, 1, 0), (0, 0, 2)], (0, 0, 0)), NoVector)
        self.assertIs(refusal_class(lies_in, [(1, 0, 0, 0)], (0, 0, 0, 0)), NoVector)

    def test_wrong_vectors(self):
        wrong = JUNK + [[1, 1], (1,), (1, 1, 1), (True, 1), (1, False), (None, 1), ("1", 1), (1.0, 1), ((1,), 1),
                        (1, 1, 1, 1), "11"]
        for vector in wrong:
            for call in (lies_in, settled):
                self.assertIs(refusal_class(call, [(2, 1), (0, 3)], vector), NoVector, vector)
        for vector in JUNK + [[1], [], (), (1, 2, 3, 4), (0,) * 5, (True,), (None,), (0, False)]:
            for call in (lies_in, settled):
                self.assertIs(refusal_class(call, [], vector), NoVector, vector)

    def test_two_wrong_things(self):
        for rows in JUNK:
            for vector in JUNK:
                for call in (lies_in, settled, reduced):
                    self.assertIs(refusal_class(call, rows, vector), NoVector, (rows, vector))


def span_by_hand(yard, standing):
    """Return vectors that generate the span."""
    return [minus(point, standing[0]) for point in standing] + rings_by_hand(yard)


def kept_by_hand(yard, standing):
    """Return vectors that generate the kept span."""
    return differences_by_hand(yard, standing) + floor_by_hand(yard, standing)


WANTED = [(span, span_by_hand), (floor, floor_by_hand), (kept_span, kept_by_hand)]
MORE_YARDS = YARDS + [
    ((6, 4), 4, ()), ((6, 4), 4, (2,)), ((12, 18, 0), 5, (1, 3)), ((0, 0, 0), 6, (1, 2, 3, 4, 5)),
    ((0, 0, 0), 6, (0, 1, 2, 4)), ((BIG, BIG - 1, 0), 4, (0, 3)), ((8, 8, 8), 3, ()),
]


class Spans(unittest.TestCase):

    def check(self, yard, standing):
        width = len(yard[0])
        for call, generators in WANTED:
            with Unchanged(self, yard, standing):
                rows = call(yard, standing)
            self.assertIs(type(rows), list)
            self.assertTrue(is_plain(rows))
            self.assertTrue(has_reduced_form(rows, width), rows)
            self.assertTrue(same_lattice(rows, generators(yard, standing)), (call, yard, standing))

    def test_ordinary_standings(self):
        for yard in MORE_YARDS:
            for seed in range(8):
                self.check(yard, generic(yard, seed, [3, 9, 1000, BIG][seed % 4]))

    def test_small_rings(self):
        for yard in [((4,), 3, ()), ((4,), 3, (1,)), ((4,), 3, (0, 2)), ((6,), 3, (1, 2)), ((2, 3), 2, (1,))]:
            for standing in standings_of(yard):
                self.check(yard, standing)

    def test_answers_of_small_cases(self):
        self.assertEqual(span(((0,), 3, (0, 2)), ((0,), (1,), (3,))), [(1,)])
        self.assertEqual(floor(((0,), 3, (0, 2)), ((0,), (1,), (3,))), [(6,)])
        self.assertEqual(kept_span(((0,), 3, (0, 2)), ((0,), (1,), (3,))), [(1,)])
        self.assertEqual(kept_span(((0,), 3, (0, 2)), ((0,), (2,), (3,))), [(2,)])
        self.assertEqual(span(((0,), 3, (0, 2)), ((0,), (2,), (3,))), [(1,)])
        self.assertEqual(floor(((4, 0), 2, ()), ((1, 5), (3, 6))), [(4, 0)])
        self.assertEqual(span(((4, 0), 2, ()), ((1, 5), (3, 6))), [(2, 1), (0, 2)])
        # The base is the first post, not person 0.
        self.assertEqual(kept_span(((0,), 3, (1,)), ((0,), (5,), (5,))), [(5,)])
        self.assertEqual(kept_span(((0,), 3, (1, 2)), ((5,), (5,), (9,))), [(8,)])

    def test_all_on_one_point(self):
        for yard in MORE_YARDS:
            standing = (generic(yard)[0],) * yard[1]
            rings = [ring for ring in rings_by_hand(yard)]
            for call, _ in WANTED:
                self.assertEqual(call(yard, standing), rings)

    def test_no_posts_and_one_post_have_the_rings_as_floor(self):
        for ways in [(0,), (7,), (0, 4), (6, 4, 0)]:
            for posts in [(), (0,), (2,)]:
                yard = (ways, 4, posts)
                self.assertEqual(floor(yard, generic(yard)), rings_by_hand(yard))
                self.assertEqual(kept_span(yard, generic(yard)), span(yard, generic(yard)))

    def test_long_numbers_and_returned_standings(self):
        source = random.Random(9)
        for yard in [((0, 0, 0), 6, (1, 4)), ((0, BIG), 4, ()), ((BIG, 10 ** 59, 0), 5, (0, 1, 2))]:
            standing = generic(yard, 3, BIG)
            self.check(yard, standing)
            self.check(yard, done(yard, standing, random_row(yard, source, 4, BIG)))
        far = done(LINE_OF_THREE, ((0,), (1,), (2,)), [(((0, 1), (0, 2)), 10 ** 3990)])
        self.assertGreater(digits_of(far), 3990)
        self.check(LINE_OF_THREE, far)

    def test_wrong_standings_and_yards(self):
        for call, _ in WANTED:
            for thing in JUNK + [[(0,), (1,)], ((0,),), ((0,), [1]), ((0,), (True,)), ((0,), (1,), (2,))]:
                self.assertIs(refusal_class(call, LINE, thing), NoStanding, thing)
                self.assertIs(refusal_class(call, thing, ((0,), (1,))), NoYard, thing)
                self.assertIs(refusal_class(call, thing, thing), NoYard, thing)
            for standing in (((0,), (5,)), ((-1,), (0,)), ((0,), (BIG,))):
                self.assertIs(refusal_class(call, RING, standing), NoStanding)
            self.assertIs(refusal_class(call, ((1,), 2, ()), None), NoYard)
            self.assertIs(refusal_class(call, POSTED, generic(POSTED)[:3]), NoStanding)


if __name__ == "__main__":
    unittest.main()
