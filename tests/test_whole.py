"""Promises 1 to 5, 7, 8 and 15 over the whole program: long histories, orders of errors, and what may be passed back."""

import random
import time
import unittest

from leapfolk.agains import again
from leapfolk.cells import gathered
from leapfolk.classes import class_home, class_of
from leapfolk.colours import colour_points, same_colour
from leapfolk.crowds import greatest_crowd, meeting, meets
from leapfolk.deeds import deed_of, row_for
from leapfolk.errors import (
    NoCell, NoNumber, NoPerson, NoRow, NoStanding, NoTable, NoVector, NoWishes, NoYard,
)
from leapfolk.evens import led_so, shows_so
from leapfolk.homes import home
from leapfolk.makers import makers
from leapfolk.rows import back, done, leaps_in, row_wrong
from leapfolk.spans import floor, kept_span, span
from leapfolk.turns import kept, turn_between
from leapfolk.verdicts import shows, verdict
from leapfolk.wishes import granted, grants
from leapfolk.yards import leapt, standing_wrong
from tests.samples import BIG, JUNK, YARDS, digits_of, generic, is_plain, random_row, refusal_class
from tests.test_homes import GROUNDS, LONG_GROUNDS

LINE = ((0,), 2, ())
AT = ((0,), (1,))


class Histories(unittest.TestCase):

    def next_row(self, yard, standing, start, source):
        """Return a row that one of the functions finds, and the standing that it leads to."""
        kind = source.randrange(6)
        target = done(yard, start, random_row(yard, source, 3, 9))
        if kind == 0:
            end, row = home(yard, standing)
        elif kind == 1:
            word, row = verdict(yard, standing, target)
            self.assertEqual(word, "led")
            end = target
        elif kind == 2:
            wishes = tuple(point if source.randrange(2) else None for point in target)
            word, row, end = granted(yard, standing, wishes)
            self.assertEqual(word, "led")
            self.assertTrue(all(wish is None or wish == point for wish, point in zip(wishes, end)))
        elif kind == 3 and not yard[2]:
            group = tuple(sorted(source.sample(range(yard[1]), 2)))
            told = meeting(yard, standing, group)
            self.assertIs(meets(yard, standing, group, told), True)
            if told[0] == "barred":
                return [], standing
            row, end = told[1:]
        elif kind == 4 and not yard[2] and not any(yard[0]):
            end, row = gathered(yard, standing, standing[0], tuple(span(yard, standing)))
        else:
            odd = source.choice([True, False])
            told = led_so(yard, standing, target, odd)
            if told[0] == "barred":
                odd = not odd
                told = led_so(yard, standing, target, odd)
            row, end = told[1], target
            self.assertEqual(leaps_in(row) % 2 == 1, odd)
        return row, end

    def history(self, yard, start, source, steps):
        value, first = kept(yard, start), home(yard, start)[0]
        standing, whole = start, []
        for _ in range(steps):
            row, end = self.next_row(yard, standing, start, source)
            self.assertIsNone(row_wrong(yard, row))
            self.assertEqual(done(yard, standing, row), end)
            self.assertTrue(kept(yard, end) == value)
            self.assertEqual(home(yard, end)[0], first)
            turn = turn_between(yard, start, end)
            self.assertTrue(turn is None or turn[1] == 1)
            self.assertEqual(makers(yard, end), makers(yard, start))
            self.assertEqual(colour_points(yard, end), colour_points(yard, start))
            self.assertEqual(kept_span(yard, end), kept_span(yard, start))
            self.assertEqual(floor(yard, end), floor(yard, start))
            whole = whole + row
            standing = end
        self.assertEqual(done(yard, start, whole), standing)
        self.assertEqual(done(yard, standing, back(whole)), start)
        self.assertIs(shows(yard, start, standing, ("led", whole)), True)
        self.assertIs(shows(yard, standing, start, ("led", back(whole))), True)
        self.assertIs(grants(yard, start, standing, ("led", whole, standing)), True)
        odd = leaps_in(whole) % 2 == 1
        self.assertIs(shows_so(yard, start, standing, odd, ("led", whole)), True)
        self.assertIs(shows_so(yard, start, standing, not odd, ("led", whole)), False)
        self.assertEqual(again(yard, start, whole + back(whole)), 1)
        return whole, standing

    def test_long_histories(self):
        source = random.Random(1)
        for ways in GROUNDS:
            for persons, posts in [(2, ()), (3, ()), (4, ()), (6, ()), (4, (1,)), (5, (0, 3)), (3, (0, 1))]:
                yard = (ways, persons, posts)
                self.history(yard, generic(yard, source.random(), 9), source, 8)

    def test_one_very_long_history(self):
        source = random.Random(2)
        yard = ((0, 6, 0), 5, ())
        whole, _ = self.history(yard, generic(yard, 3, 20), source, 120)
        self.assertGreater(len(whole), 2000)

    def test_histories_of_sixty_digits(self):
        source = random.Random(3)
        start = time.monotonic()
        for ways in LONG_GROUNDS:
            for persons, posts in [(3, ()), (5, ()), (4, (1,))]:
                yard = (ways, persons, posts)
                self.history(yard, generic(yard, source.random(), BIG), source, 5)
        self.assertLess(time.monotonic() - start, 120)

    def test_tables_of_histories(self):
        source = random.Random(4)
        for persons in (2, 3, 4):
            yard = ((0,), persons, ())
            start = generic(yard, persons, 9)
            whole, end = self.history(yard, start, source, 6)
            table = deed_of(persons, whole)
            self.assertEqual(done(yard, start, row_for(persons, (), table)), end)

    def test_classes_of_histories(self):
        source = random.Random(5)
        for ways, persons in [((9,), 3), ((4, 4), 3), ((2, 3), 4), ((60,), 2)]:
            yard = (ways, persons, ())
            start = generic(yard, 6)
            _, end = self.history(yard, start, source, 12)
            number = class_of(ways, start)
            self.assertEqual(class_of(ways, end), number)
            self.history(yard, class_home(ways, persons, number), source, 3)
            self.assertEqual(verdict(yard, end, class_home(ways, persons, number))[0], "led")


class Returned(unittest.TestCase):

    def test_returned_standings_rows_and_papers_may_be_passed_back(self):
        source = random.Random(1)
        for yard in YARDS:
            start = generic(yard, source.random(), 10 ** 20)
            end, row = home(yard, start)
            self.assertIsNone(standing_wrong(yard, end))
            self.assertIsNone(row_wrong(yard, row + back(row) + row))
            self.assertEqual(verdict(yard, end, done(yard, start, row))[0], "led")
            self.assertTrue(is_plain(granted(yard, end, start)))
            for odd in (True, False):
                told = led_so(yard, start, end, odd)
                self.assertIs(shows_so(yard, start, end, odd, told), True)
            if yard[1] <= 4:
                table = deed_of(yard[1], row)
                self.assertEqual(deed_of(yard[1], row_for(yard[1], yard[2], table)), table)
            if not yard[2]:
                self.assertEqual(greatest_crowd(yard, start), greatest_crowd(yard, end))

    def test_rows_keep_to_the_number_of_runs_and_of_digits(self):
        # Small numbers, too: at most 5,000 runs per digit of the largest integer in the arguments.
        source = random.Random(2)
        for ways in GROUNDS + LONG_GROUNDS:
            for posts in [(), (2,)]:
                yard = (ways, 5, posts)
                for bound in (1, 9, BIG):
                    start = generic(yard, source.random(), bound)
                    found = [home(yard, start)[1]] + [told[1] for told in [
                        granted(yard, start, (start[0],) + (None,) * 4), led_so(yard, start, start, True),
                        led_so(yard, start, home(yard, start)[0], False), verdict(yard, start, home(yard, start)[0]),
                    ] + ([] if posts else [meeting(yard, start, (0, 1)), meeting(yard, start, (1, 3, 4))])
                        if told[0] == "led"]
                    digits = max(digits_of(yard), digits_of(start))
                    for row in found:
                        self.assertLessEqual(len(row), 5000 * digits)
                        self.assertLessEqual(digits_of(row), 4000)


class OrderOfErrors(unittest.TestCase):

    # Each function that takes a yard and a standing, with what stands behind them, all of it wrong.
    OF_STANDINGS = [
        (leapt, (None,)), (done, (None,)), (span, ()), (floor, ()), (kept_span, ()), (makers, ()), (colour_points, ()),
        (same_colour, (None, None)), (kept, ()), (home, ()), (granted, (None,)), (grants, (None, None)),
        (gathered, (None, None)), (again, (None,)), (greatest_crowd, ()), (meeting, (None,)), (meets, (None, None)),
    ]
    OF_TWO = [(turn_between, ()), (verdict, ()), (shows, (None,)), (led_so, (None,)), (shows_so, (None, None))]

    def test_yards_are_looked_at_first(self):
        wrong = JUNK + [((0,), 2), ((0,), 2, (), ()), [(0,), 2, ()], ((1,), 2, ()), ((0,), 1, ()), ((0,), 7, ()),
                        ((0,), 2, (0, 1)), ((0,), 2, (1, 0)), ((0,), 2, [0]), ((0,), 2, (2,)), ((0,), True, ()),
                        ((True,), 2, ()), ((0, 0, 0, 0), 2, ()), ([0], 2, ()), ((0,), 2, None)]
        for yard in wrong:
            for call, more in self.OF_STANDINGS:
                self.assertIs(refusal_class(call, yard, AT, *more), NoYard, (call, yard))
                self.assertIs(refusal_class(call, yard, None, *more), NoYard, (call, yard))
            for call, more in self.OF_TWO:
                self.assertIs(refusal_class(call, yard, AT, AT, *more), NoYard, (call, yard))
                self.assertIs(refusal_class(call, yard, None, None, *more), NoYard, (call, yard))

    def test_standings_are_looked_at_next(self):
        for standing in JUNK + [[(0,), (1,)], ((0,),), ((0,), (1,), (2,)), ((0,), [1]), ((0,), (True,)), ((0,), (1, 1)),
                                ((0,), (1.0,)), ((0,), None)]:
            for call, more in self.OF_STANDINGS:
                self.assertIs(refusal_class(call, LINE, standing, *more), NoStanding, (call, standing))
            for call, more in self.OF_TWO:
                self.assertIs(refusal_class(call, LINE, standing, AT, *more), NoStanding, (call, standing))
                self.assertIs(refusal_class(call, LINE, AT, standing, *more), NoStanding, (call, standing))
                self.assertIs(refusal_class(call, LINE, standing, standing, *more), NoStanding, (call, standing))

    def test_what_is_looked_at_last(self):
        for call, arguments, error in [
            (done, (None,), NoRow), (again, (None,), NoRow), (granted, (None,), NoWishes), (grants, (None, None), NoWishes),
            (gathered, (None, None), NoCell), (meeting, (None,), NoPerson), (meets, (None, None), NoPerson),
            (same_colour, (None, None), NoPerson), (led_so, (AT, None), NoNumber), (shows_so, (AT, None, None), NoNumber),
        ]:
            self.assertIs(refusal_class(call, LINE, AT, *arguments), error, call)
        self.assertIs(refusal_class(again, LINE, AT, [], most=None), NoNumber)
        self.assertIs(refusal_class(again, LINE, AT, None, most=None), NoRow)
        self.assertIs(refusal_class(deed_of, None, None), NoRow)
        self.assertIs(refusal_class(row_for, None, None, None), NoTable)
        self.assertFalse(issubclass(NoVector, NoYard))


if __name__ == "__main__":
    unittest.main()
