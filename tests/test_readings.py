"""Promises 2 and 13: fractions, readings, and what they read of a vector."""

import random
import unittest
from fractions import Fraction

from leapfolk.errors import NoReading, NoVector, NoYard
from leapfolk.readings import reading_wrong, reads
from tests.samples import BIG, HUGE, JUNK, LINE, MIXED, POSTED, RING, YARDS, Unchanged, is_plain, refusal_class

NO_FRACTIONS = [
    (2, 4), (0, 2), (0, 0), (1, 0), (1, -1), (-1, -2), (3, 3), (-2, 2), (1, -3), (0, -1), (BIG, BIG), (1,), (1, 2, 3),
    [1, 2], (True, 2), (1, True), (False, 1), (None, 2), (1, None), ("1", 2), (1.0, 2), (1, 2.0), ((1, 2), 1), (1, [2]),
    0, 1, "1/2", Fraction(1, 2), 0.5,
]


def random_reading(source, ways, bound=40):
    """Return a reading of the ways."""
    found = []
    for way in ways:
        fraction = Fraction(source.randint(-bound, bound), way if way else source.randint(1, bound))
        found.append((fraction.numerator, fraction.denominator))
    return tuple(found)


def read_by_hand(reading, vector):
    """Return the fraction that is read."""
    total = sum((Fraction(*fraction) * number for fraction, number in zip(reading, vector)), Fraction(0)) % 1
    return (total.numerator, total.denominator)


class ReadingWrong(unittest.TestCase):

    def test_readings(self):
        source = random.Random(1)
        for yard in YARDS:
            for _ in range(20):
                self.assertIsNone(reading_wrong(yard, random_reading(source, yard[0])))

    def test_edges_that_are_readings(self):
        for fraction in [(0, 1), (1, 1), (-1, 1), (7, 1), (1, 2), (-7, 2), (BIG, 1), (1, BIG), (-BIG, BIG + 1),
                         (HUGE, HUGE + 1)]:
            self.assertIsNone(reading_wrong(LINE, (fraction,)))
        for fraction in [(0, 1), (3, 1), (-1, 1), (1, 5), (-6, 5), (12, 5), (BIG, 1)]:
            self.assertIsNone(reading_wrong(RING, (fraction,)))
        self.assertIsNone(reading_wrong(((6, 0, BIG), 3, ()), ((5, 3), (1, 7), (2, BIG))))

    def test_what_is_no_tuple_of_one_item_per_way(self):
        for thing in JUNK:
            if not (isinstance(thing, tuple) and len(thing) == 2):
                self.assertEqual(reading_wrong(POSTED, thing), ("reading",), thing)
        for thing in [((0, 1),), ((0, 1),) * 3, [(0, 1), (0, 1)], (), "ab", {(0, 1): 1, (1, 1): 2}]:
            self.assertEqual(reading_wrong(POSTED, thing), ("reading",), thing)
        self.assertEqual(reading_wrong(LINE, (0, 1)), ("reading",))

    def test_wrong_fractions(self):
        for thing in JUNK + NO_FRACTIONS:
            self.assertEqual(reading_wrong(LINE, (thing,)), ("fraction", 0), thing)
            self.assertEqual(reading_wrong(RING, (thing,)), ("fraction", 0), thing)
            self.assertEqual(reading_wrong(MIXED, ((0, 1), thing, None)), ("fraction", 1), thing)
            self.assertEqual(reading_wrong(MIXED, ((0, 1), (1, 7), thing)), ("fraction", 2), thing)

    def test_fractions_that_do_not_fit_a_ring(self):
        for fraction in [(1, 2), (1, 25), (3, 10), (1, BIG), (-1, 3)]:
            self.assertEqual(reading_wrong(RING, (fraction,)), ("ring", 0), fraction)
            self.assertEqual(reading_wrong(((0, 5), 2, ()), (fraction, fraction)), ("ring", 1), fraction)
        self.assertEqual(reading_wrong(MIXED, ((1, 9), (1, 2), (1, 7))), ("ring", 1))
        self.assertEqual(reading_wrong(MIXED, ((1, 9), (3, 7), (1, 7))), ("ring", 2))
        self.assertIsNone(reading_wrong(MIXED, ((1, 9), (3, 7), (1, 2))))

    def test_all_fractions_come_before_the_rings(self):
        self.assertEqual(reading_wrong(((5, 5), 2, ()), ((1, 2), None)), ("fraction", 1))
        self.assertEqual(reading_wrong(((5, 5), 2, ()), ((1, 2), (2, 10))), ("fraction", 1))
        self.assertEqual(reading_wrong(((5, 5), 2, ()), ((1, 2), (1, 3))), ("ring", 0))
        self.assertEqual(reading_wrong(((5, 5), 2, ()), [(1, 2), None]), ("reading",))

    def test_yard_comes_first(self):
        for yard in JUNK + [[(0,), 2, ()], ((1,), 2, ()), ((0,), 2, (0, 1))]:
            for thing in [((0, 1),), None, [], ((1, 2),), (None,)]:
                self.assertIs(refusal_class(reading_wrong, yard, thing), NoYard, yard)


class Reads(unittest.TestCase):

    def test_ordinary_answers(self):
        self.assertEqual(reads(LINE, ((1, 3),), (1,)), (1, 3))
        self.assertEqual(reads(LINE, ((1, 3),), (-1,)), (2, 3))
        self.assertEqual(reads(LINE, ((1, 3),), (6,)), (0, 1))
        self.assertEqual(reads(LINE, ((-7, 2),), (3,)), (1, 2))
        self.assertEqual(reads(((0, 4), 2, ()), ((1, 6), (3, 4)), (1, 1)), (11, 12))
        self.assertEqual(reads(((0, 4), 2, ()), ((1, 6), (3, 4)), (5, 2)), (1, 3))
        self.assertEqual(reads(LINE, ((4, 1),), (9,)), (0, 1))
        # A vector is not bound to the points of a ring.
        self.assertEqual(reads(RING, ((2, 5),), (-12,)), (1, 5))

    def test_products_are_summed(self):
        source = random.Random(2)
        for yard in YARDS + [((0, 0, 0), 2, ()), ((6, 10, 15), 2, ())]:
            for bound in (1, 9, BIG, HUGE):
                for _ in range(10):
                    reading = random_reading(source, yard[0], bound)
                    vector = tuple(source.randint(-bound, bound) for _ in yard[0])
                    with Unchanged(self, yard, reading, vector):
                        found = reads(yard, reading, vector)
                    self.assertEqual(found, read_by_hand(reading, vector))
                    self.assertIs(type(found), tuple)
                    self.assertTrue(is_plain(found))

    def test_ring_vectors_are_read_as_zero(self):
        source = random.Random(3)
        for ways in [(5, 0), (6, 10, 15), (BIG, 2)]:
            reading = random_reading(source, ways)
            for n, way in enumerate(ways):
                self.assertEqual(reads((ways, 2, ()), reading, tuple(way * (k == n) for k in range(len(ways)))), (0, 1))

    def test_wrong_readings(self):
        for thing in JUNK + [[(0, 1)], (0, 1), ((0, 1), (0, 1))] + [(fraction,) for fraction in NO_FRACTIONS]:
            for vector in [(1,), None, [1], (1, 1), (True,), thing]:
                self.assertIs(refusal_class(reads, LINE, thing, vector), NoReading, thing)
        self.assertIs(refusal_class(reads, RING, ((1, 2),), (2,)), NoReading)
        self.assertIs(refusal_class(reads, RING, ((1, 2),), None), NoReading)

    def test_wrong_vectors(self):
        for thing in JUNK + [[1], (1, 1), (True,), (None,), ("1",), (1.0,), ((1,),), ()]:
            self.assertIs(refusal_class(reads, LINE, ((1, 2),), thing), NoVector, thing)
        for thing in [(1,), (1, 2, 3), [1, 2], (1, False)]:
            self.assertIs(refusal_class(reads, POSTED, ((1, 2), (1, 4)), thing), NoVector, thing)

    def test_yard_comes_first(self):
        for yard in JUNK + [[(0,), 2, ()], ((1,), 2, ()), ((0,), 2, (0, 1))]:
            for reading in [((0, 1),), None]:
                for vector in [(0,), None]:
                    self.assertIs(refusal_class(reads, yard, reading, vector), NoYard, yard)


if __name__ == "__main__":
    unittest.main()
