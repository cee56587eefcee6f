"""Promise 24: all classes of standings on small rings, counted and numbered."""

import random
import time
import unittest

from leapfolk.classes import class_count, class_home, class_of
from leapfolk.errors import NoNumber, NoStanding, NoYard
from leapfolk.rows import done
from leapfolk.turns import kept
from leapfolk.verdicts import verdict
from leapfolk.yards import standing_wrong
from tests.samples import BIG, JUNK, Unchanged, classes_of, generic, is_plain, random_row, refusal_class, standings_of

SMALL = [
    ((2,), 2), ((2,), 3), ((2,), 4), ((3,), 2), ((3,), 3), ((3,), 4), ((4,), 2), ((4,), 3), ((5,), 3), ((6,), 2),
    ((6,), 3), ((7,), 2), ((8,), 2), ((9,), 2), ((12,), 2), ((4,), 4), ((5,), 4), ((6,), 4), ((2, 2), 2), ((2, 2), 3),
    ((2, 3), 2), ((3, 3), 2), ((3, 3), 3), ((2, 4), 3), ((4, 4), 2), ((2, 2, 2), 2), ((2, 2, 2), 3), ((2, 2, 3), 2),
    ((25,), 2), ((30,), 2), ((10,), 3), ((2, 5), 3),
]
LARGEST = [((64,), 2), ((16,), 3), ((8,), 4), ((2, 2, 2), 4), ((4, 4, 4), 2), ((4, 4), 3), ((2, 32), 2), ((2, 4), 4)]
NO_RINGS = [
    (), (0,), (0, 5), (5, 0), (1,), (5, 1), (-5,), (2, 2, 2, 2), [5], (True,), (5, True), (5.0,), ("5",), (None,), 5, "5",
    {5}, ((5,),), ((5,), 2, ()),
]


class Classes(unittest.TestCase):

    def test_counted_one_by_one(self):
        for ways, persons in SMALL:
            numbers = classes_of((ways, persons, ()))
            count = class_count(ways, persons)
            self.assertIs(type(count), int)
            self.assertEqual(count, len(set(numbers.values())), (ways, persons))

    def test_numbers_of_all_standings(self):
        for ways, persons in SMALL:
            numbers = classes_of((ways, persons, ()))
            found = {}
            for standing, number in numbers.items():
                answer = class_of(ways, standing)
                self.assertIs(type(answer), int)
                # One number for all standings of a class, and no two classes have the same.
                self.assertEqual(found.setdefault(number, answer), answer, (ways, standing))
            self.assertEqual(sorted(found.values()), list(range(class_count(ways, persons))))

    def test_homes_of_all_numbers(self):
        for ways, persons in SMALL:
            for number in range(class_count(ways, persons)):
                standing = class_home(ways, persons, number)
                self.assertIs(type(standing), tuple)
                self.assertTrue(is_plain(standing))
                self.assertIsNone(standing_wrong((ways, persons, ()), standing))
                self.assertEqual(class_of(ways, standing), number)

    def test_as_many_standings_as_there_may_be(self):
        start = time.monotonic()
        for ways, persons in LARGEST:
            count = class_count(ways, persons)
            found = {class_of(ways, standing) for standing in standings_of((ways, persons, ()))}
            self.assertEqual(found, set(range(count)))
            self.assertEqual([class_of(ways, class_home(ways, persons, number)) for number in range(count)],
                             list(range(count)))
        self.assertLess(time.monotonic() - start, 60)

    def test_known_counts(self):
        self.assertEqual(class_count((6,), 2), 16)
        # On a ring of 2 points leaps change nothing.
        for ways, persons in [((2,), 2), ((2,), 4), ((2, 2), 3), ((2, 2, 2), 4)]:
            size = 1
            for way in ways:
                size *= way ** persons
            self.assertEqual(class_count(ways, persons), size)
        # On a ring of three points all are on one point, or not: two turns are none.
        self.assertEqual(class_count((3,), 2), 4)
        self.assertEqual(class_count((3,), 3), 4)
        self.assertEqual(class_count((5,), 2), 5 + 2)
        self.assertEqual(class_count((5,), 3), 5 + 1)

    def test_the_same_as_kept(self):
        source = random.Random(1)
        for ways, persons in LARGEST + SMALL[-8:]:
            yard = (ways, persons, ())
            for _ in range(40):
                one, other = generic(yard, source.random()), generic(yard, source.random())
                same = class_of(ways, one) == class_of(ways, other)
                self.assertIs(kept(yard, one) == kept(yard, other), same)
                self.assertEqual(verdict(yard, one, other)[0], "led" if same else "barred")
                after = done(yard, one, random_row(yard, source, 4, 9))
                self.assertEqual(class_of(ways, after), class_of(ways, one))

    def test_one_question_after_another(self):
        questions = [((6,), 2), ((6,), 3), ((2, 3), 2), ((6,), 2), ((3, 2), 2), ((5,), 3), ((6,), 3)]
        first = [(class_count(*some), [class_home(*some, k) for k in range(4)]) for some in questions]
        again = [(class_count(*some), [class_home(*some, k) for k in range(4)]) for some in reversed(questions)]
        self.assertEqual(first, again[::-1])
        with Unchanged(self, questions):
            self.assertEqual(class_of((6,), ((1,), (2,))), class_of((6,), ((1,), (0,))))

    def test_too_many_standings(self):
        for ways, persons in [((65,), 2), ((17,), 3), ((9,), 4), ((2, 33), 2), ((4, 4, 5), 2), ((BIG,), 2), ((BIG, BIG, BIG), 4),
                              ((3, 3), 4), ((2, 3, 3), 3)]:
            self.assertIs(refusal_class(class_count, ways, persons), NoYard, (ways, persons))
            self.assertIs(refusal_class(class_home, ways, persons, 0), NoYard)
            self.assertIs(refusal_class(class_home, ways, persons, None), NoYard)
            self.assertIs(refusal_class(class_of, ways, ((0,) * len(ways),) * persons), NoYard)
            self.assertIs(refusal_class(class_of, ways, (None,) * persons), NoYard)

    def test_numbers_of_persons(self):
        for persons in (1, 5, 6, 0, -2, 7, True, None, "2", 2.0, (2,), [2], 10 ** 60):
            self.assertIs(refusal_class(class_count, (2,), persons), NoYard, persons)
            self.assertIs(refusal_class(class_home, (2,), persons, 0), NoYard, persons)
            self.assertIs(refusal_class(class_home, (2,), persons, None), NoYard, persons)
        for persons in (0, 1, 5, 6, 7):
            self.assertIs(refusal_class(class_of, (2,), ((0,),) * persons), NoYard, persons)
            self.assertIs(refusal_class(class_of, (2,), (None,) * persons), NoYard, persons)

    def test_wrong_ways(self):
        for ways in JUNK + NO_RINGS:
            self.assertIs(refusal_class(class_count, ways, 2), NoYard, ways)
            self.assertIs(refusal_class(class_count, ways, ways), NoYard, ways)
            self.assertIs(refusal_class(class_home, ways, 2, 0), NoYard, ways)
            self.assertIs(refusal_class(class_home, ways, 2, None), NoYard, ways)
            self.assertIs(refusal_class(class_of, ways, ((0,), (1,))), NoYard, ways)
            self.assertIs(refusal_class(class_of, ways, ways), NoYard, ways)

    def test_wrong_standings(self):
        for thing in JUNK + [[(0,), (1,)], {(0,): 1}, "ab", 2]:
            if not isinstance(thing, tuple):
                self.assertIs(refusal_class(class_of, (5,), thing), NoYard, thing)
            elif 2 <= len(thing) <= 4:
                self.assertIs(refusal_class(class_of, (5,), thing), NoStanding, thing)
            else:
                self.assertIs(refusal_class(class_of, (5,), thing), NoYard, thing)
        for thing in [((0,), (5,)), ((-1,), (0,)), ((0,), [1]), ((0,), (True,)), ((0,), (1, 1)), ((0,), ()), ((0,), None),
                      ((0,), (1.0,)), ((0,), 1), ((0,), ("1",)), ("a", "b"), ((0,), (1,), (5,)), ((0,),) * 3 + (None,)]:
            self.assertIs(refusal_class(class_of, (5,), thing), NoStanding, thing)

    def test_wrong_numbers(self):
        for thing in JUNK + [-1, 16, 17, 10 ** 60, "3", 3.0, (3,), [3]]:
            if type(thing) is not int or not 0 <= thing < 16:
                self.assertIs(refusal_class(class_home, (6,), 2, thing), NoNumber, thing)
        for ways, persons in SMALL:
            self.assertIs(refusal_class(class_home, ways, persons, class_count(ways, persons)), NoNumber)
            self.assertIs(refusal_class(class_home, ways, persons, -1), NoNumber)


if __name__ == "__main__":
    unittest.main()
