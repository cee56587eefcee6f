"""Promises 3 and 23: rows with an even or an odd number of leaps, and papers that bar them."""

import itertools
import random
import time
import unittest
from fractions import Fraction

from leapfolk.errors import NoNumber, NoStanding, NoYard
from leapfolk.evens import led_so, shows_so
from leapfolk.makers import makers
from leapfolk.rows import back, done, leaps_in, row_wrong
from leapfolk.turns import kept
from leapfolk.verdicts import shows, verdict
from tests.samples import (
    BIG, JUNK, LINE, LINE_OF_THREE, RING, YARDS, Unchanged, determinant_by_hand, differences_by_hand, digits_of,
    floor_by_hand, generic, is_plain, leap_by_hand, movers_by_hand, random_row, refusal_class, standings_of,
    walkers_over,
)
from tests.test_homes import GROUNDS, LONG_GROUNDS, close_numbers
from tests.test_readings import NO_FRACTIONS, random_reading, read_by_hand
from tests.test_verdicts import all_readings, bars_by_hand, changed_standings
from tests.test_wishes import number_changes, readings_in

ZERO = (0, 1)
AROUND = ((0, 1), (1, 0))

RINGS = [
    ((2,), 2, ()), ((3,), 2, ()), ((4,), 2, ()), ((5,), 2, ()), ((12,), 2, ()), ((3,), 3, ()), ((4,), 3, ()),
    ((6,), 3, ()), ((2, 2), 2, ()), ((3, 3), 2, ()), ((3, 3), 3, ()), ((2, 4), 2, ()), ((2, 2), 3, ()), ((3, 6), 2, ()),
    ((2, 2, 2), 2, ()), ((2,), 5, ()), ((7,), 2, (0,)), ((7,), 2, (1,)), ((8,), 3, (1,)), ((6,), 3, (0, 2)),
    ((12,), 3, (1, 2)), ((4,), 4, (0, 1)), ((3,), 4, (2,)), ((2, 3), 3, (0, 1)), ((4,), 3, (1,)), ((8,), 2, ()),
]


def reached_by_parity(yard, standing):
    """Return a set of (standing, number of leaps modulo 2) that leaps lead to, leap by leap."""
    seen, waiting = {(standing, 0)}, [(standing, 0)]
    while waiting:
        here, parity = waiting.pop()
        for leap in walkers_over(yard):
            after = (leap_by_hand(yard, here, leap), 1 - parity)
            if after not in seen:
                seen.add(after)
                waiting.append(after)
    return seen


def signs_by_hand(yard, one, other, odd, paper):
    """Return whether a paper ("signs", count, readings) with parts of the right kinds bars, word by word."""
    _, count, readings = paper
    if count < 3 or len(readings) != len(movers_by_hand(yard)):
        return False
    found = []
    for standing in (one, other):
        vectors = differences_by_hand(yard, standing)
        if any(read_by_hand(reading, v) != ZERO for reading in readings for v in floor_by_hand(yard, standing)):
            return False
        table = [[count * Fraction(*read_by_hand(reading, v)) for v in vectors] for reading in readings]
        if any(number.denominator != 1 for row in table for number in row):
            return False
        found.append(determinant_by_hand(table))
    first, then = found
    if (first + first) % count == 0:
        return False
    return (first - then) % count == 0 if odd else (first + then) % count == 0


class LedSo(unittest.TestCase):

    def check(self, yard, one, other, odd):
        with Unchanged(self, yard, one, other):
            told = led_so(yard, one, other, odd)
        self.assertIs(type(told), tuple)
        self.assertEqual(len(told), 2)
        self.assertTrue(is_plain(told))
        word, what = told
        digits = max(digits_of(yard), digits_of(one), digits_of(other))
        if word == "led":
            self.assertIs(type(what), list)
            self.assertIsNone(row_wrong(yard, what))
            self.assertEqual(done(yard, one, what), other)
            self.assertEqual(leaps_in(what) % 2 == 1, odd)
            self.assertLessEqual(len(what), 5000 * digits)
        else:
            self.assertEqual(word, "barred")
            self.assertIs(type(what), tuple)
            if what[0] == "signs":
                self.assertTrue(signs_by_hand(yard, one, other, odd, what), (yard, one, other, odd, what))
            else:
                self.assertTrue(bars_by_hand(yard, one, other, what), (yard, one, other, odd, what))
        if digits <= 60:
            self.assertLessEqual(digits_of(what), 4000)
        self.assertIs(shows_so(yard, one, other, odd, told), True)
        # For the other number of leaps it is judged anew.
        if word == "led":
            self.assertIs(shows_so(yard, one, other, not odd, told), False)
        elif what[0] == "signs":
            self.assertIs(shows_so(yard, one, other, not odd, told), signs_by_hand(yard, one, other, not odd, what))
        else:
            self.assertIs(shows_so(yard, one, other, not odd, told), True)
        return told

    def check_both(self, yard, one, other):
        """Return the words for an even and an odd number of leaps."""
        return tuple(told[0] if told[0] == "led" else told[1][0]
                     for told in (self.check(yard, one, other, odd) for odd in (False, True)))

    def test_ordinary_answers(self):
        self.assertEqual(self.check_both(LINE, ((0,), (1,)), ((0,), (1,))), ("led", "signs"))
        self.assertEqual(self.check_both(LINE, ((0,), (1,)), ((2,), (1,))), ("signs", "led"))
        self.assertEqual(self.check_both(LINE, ((0,), (1,)), ((2,), (3,))), ("led", "signs"))
        self.assertEqual(self.check_both(LINE, ((0,), (1,)), ((1,), (2,))), ("colour", "colour"))
        self.assertEqual(self.check_both(LINE, ((4,), (4,)), ((4,), (4,))), ("led", "led"))
        self.assertEqual(self.check_both(LINE_OF_THREE, ((0,), (1,), (0,)), ((0,), (1,), (0,))), ("led", "led"))
        self.assertEqual(self.check_both(((2,), 2, ()), ((0,), (1,)), ((0,), (1,))), ("led", "led"))
        self.assertEqual(self.check_both(((4,), 2, ()), ((0,), (2,)), ((0,), (2,))), ("led", "led"))
        self.assertEqual(self.check_both(((3,), 2, ()), ((0,), (1,)), ((0,), (1,))), ("led", "signs"))
        self.assertEqual(self.check_both(((3,), 2, ()), ((0,), (1,)), ((0,), (2,))), ("signs", "led"))
        self.assertEqual(self.check_both(((0, 0), 3, ()), ((0, 0), (1, 0), (0, 1)), ((0, 0), (1, 0), (0, 1))),
                         ("led", "signs"))
        self.assertEqual(self.check_both(((0,), 2, (0,)), ((0,), (1,)), ((0,), (-1,))), ("signs", "led"))
        self.assertEqual(self.check_both(((0,), 3, (0, 1)), ((0,), (1,), (1,)), ((0,), (1,), (1,))), ("led", "led"))
        self.assertEqual(self.check_both(((0,), 3, (0, 1)), ((0,), (3,), (1,)), ((0,), (3,), (-5,))), ("led", "signs"))
        self.assertEqual(self.check_both(((0,), 2, (0,)), ((0,), (1,)), ((1,), (1,))), ("post", "post"))

    def test_all_standings_that_leaps_lead_to(self):
        source = random.Random(1)
        seen = set()
        for yard in RINGS:
            standings = standings_of(yard)
            for one in source.sample(standings, 3):
                reached = reached_by_parity(yard, one)
                others = [one] + source.sample(standings, min(len(standings), 20))
                others += [other for other, _ in source.sample(sorted(reached), min(len(reached), 20))]
                for other in others:
                    words = self.check_both(yard, one, other)
                    for parity in (0, 1):
                        self.assertEqual(words[parity] == "led", (other, parity) in reached, (yard, one, other))
                    seen.add(words)
        for wanted in [("led", "led"), ("led", "signs"), ("signs", "led"), ("post", "post"), ("span", "span"),
                       ("colour", "colour"), ("turn", "turn")]:
            self.assertIn(wanted, seen)
        self.assertEqual(len(seen), 7)

    def test_both_exactly_where_signs_tell_nothing(self):
        source = random.Random(2)
        counts = set()
        for ways in GROUNDS:
            for persons in range(2, 7):
                for many in {0, 1, source.randrange(persons), persons - 1}:
                    yard = (ways, persons, tuple(sorted(source.sample(range(persons), many))))
                    for bound in (1, 3, 9):
                        one = generic(yard, source.random(), bound)
                        row = random_row(yard, source, 3, 5)
                        other = done(yard, one, row)
                        found = makers(yard, one)
                        words = self.check_both(yard, one, other)
                        self.assertEqual(words[leaps_in(row) % 2], "led")
                        told = len(found) == len(movers_by_hand(yard)) and found[0] != 2
                        self.assertEqual(words[1 - leaps_in(row) % 2], "signs" if told else "led")
                        counts.add((len(found) == len(movers_by_hand(yard)), found[0] if found else None))
        # As many movers as makers and more, with first makers that are 0, 2, 3, and others.
        for wanted in [(True, 0), (True, 2), (True, 3), (False, 0), (False, 2), (False, None)]:
            self.assertIn(wanted, counts)

    def test_standings_that_no_row_leads_to(self):
        source = random.Random(3)
        for ways in GROUNDS:
            for posts in [(), (1,), (0, 3)]:
                yard = (ways, 4, posts)
                one = generic(yard, source.random(), 3)
                for other in changed_standings(yard, one, source):
                    words = self.check_both(yard, one, other)
                    if verdict(yard, one, other)[0] == "led":
                        self.assertIn("led", words)
                    else:
                        self.assertEqual(words[0], words[1])
                        self.assertNotIn(words[0], ("led", "signs"))

    def test_one_and_the_same_standing(self):
        source = random.Random(4)
        for yard in YARDS + [(ways, 5, posts) for ways in GROUNDS for posts in [(), (2,), (1, 3), (0, 1, 2, 3)]]:
            one = generic(yard, source.random(), 9)
            self.assertEqual(self.check(yard, one, one, False)[0], "led")
            self.check(yard, one, one, True)
            together = (one[0],) * yard[1]
            self.assertEqual(self.check_both(yard, together, together), ("led", "led"))

    def test_sixty_digits(self):
        source = random.Random(5)
        start = time.monotonic()
        seen = set()
        for ways in LONG_GROUNDS:
            for persons, posts in [(2, ()), (3, ()), (4, (2,)), (5, (1, 3)), (6, ()), (6, (0, 2, 3)), (6, (0, 1, 2, 4))]:
                yard = (ways, persons, posts)
                for make in (lambda: generic(yard, source.random(), 10 ** 30),
                             lambda: close_numbers(yard, source, 10 ** 30)):
                    one = make()
                    row = random_row(yard, source, 2, 10 ** 14)
                    words = self.check_both(yard, one, done(yard, one, row))
                    self.assertEqual(words[leaps_in(row) % 2], "led")
                    seen.add(words)
                one, other = generic(yard, source.random(), BIG), generic(yard, source.random(), BIG)
                self.check_both(yard, one, other)
                seen.add(self.check_both(yard, one, one))
        self.assertLessEqual({("led", "led"), ("led", "signs"), ("signs", "led")}, seen)
        self.assertLess(time.monotonic() - start, 120)

    def test_thousands_of_digits(self):
        source = random.Random(6)
        for yard in [((0,), 3, ()), ((0, 0), 4, (1,)), ((0, 12), 5, (0, 2)), ((BIG, 0), 3, ()), ((0,), 2, ())]:
            one = generic(yard, 2, BIG)
            row = random_row(yard, source, 4, 10 ** 600)
            words = self.check_both(yard, one, done(yard, one, row))
            self.assertEqual(words[leaps_in(row) % 2], "led")

    def test_rows_are_new(self):
        for yard in YARDS:
            one = generic(yard, 1, 9)
            for odd in (False, True):
                told = led_so(yard, one, one, odd)
                if told[0] == "led":
                    again = list(told[1])
                    told[1].append("mine")
                    told[1].reverse()
                    self.assertEqual(led_so(yard, one, one, odd), ("led", again))

    def test_wrong_arguments(self):
        right, told = ((0,), (1,)), ("led", [])
        for thing in JUNK + [[(0,), (1,)], ((0,),), ((0,), [1]), ((0,), (True,)), ((0,), (5,)), ((0,), (-1,)), 0, 1, 2]:
            for call, more in ((led_so, ()), (shows_so, (told,)), (shows_so, (None,)), (shows_so, (thing,))):
                self.assertIs(refusal_class(call, thing, right, right, True, *more), NoYard, thing)
                self.assertIs(refusal_class(call, thing, None, thing, thing, *more), NoYard, thing)
                self.assertIs(refusal_class(call, RING, thing, right, True, *more), NoStanding, thing)
                self.assertIs(refusal_class(call, RING, right, thing, False, *more), NoStanding, thing)
                self.assertIs(refusal_class(call, RING, thing, right, None, *more), NoStanding, thing)
                self.assertIs(refusal_class(call, RING, right, thing, 1, *more), NoStanding, thing)
                if thing is not True and thing is not False:
                    self.assertIs(refusal_class(call, RING, right, right, thing, *more), NoNumber, thing)
                    self.assertIs(refusal_class(call, RING, right, ((3,), (3,)), thing, *more), NoNumber, thing)


class ShowsSo(unittest.TestCase):

    def accept(self, yard, one, other, odd, paper):
        self.assertIs(shows_so(yard, one, other, odd, ("barred", paper)), True, (yard, one, other, odd, paper))

    def refuse(self, yard, one, other, odd, told):
        with Unchanged(self, yard, one, other):
            self.assertIs(shows_so(yard, one, other, odd, told), False, (yard, one, other, odd, told))

    def refuse_barred(self, yard, one, other, odd, paper):
        self.refuse(yard, one, other, odd, ("barred", paper))

    def test_papers_of_signs(self):
        here, there = ((0,), (1,)), ((0,), (-1,))
        for count, reading in [(3, ((1, 3),)), (3, ((2, 3),)), (3, ((-1, 3),)), (5, ((1, 5),)), (4, ((1, 4),)), (6, ((1, 3),))]:
            self.accept(LINE, here, here, True, ("signs", count, (reading,)))
            self.accept(LINE, here, there, False, ("signs", count, (reading,)))
            self.refuse_barred(LINE, here, here, False, ("signs", count, (reading,)))
            self.refuse_barred(LINE, here, there, True, ("signs", count, (reading,)))
        # The determinants are neither equal nor one the other's negative.
        for odd in (True, False):
            self.refuse_barred(LINE, here, ((0,), (2,)), odd, ("signs", 7, (((1, 7),),)))
            self.refuse_barred(LINE, here, ((0,), (2,)), odd, ("signs", 5, (((1, 5),),)))
            self.assertEqual(shows_so(LINE, here, ((0,), (2,)), odd, ("barred", ("signs", 3, (((1, 3),),)))), not odd)

    def test_counts(self):
        here = ((0,), (1,))
        # Modulo 2 and 1 each number is its own negative.
        for count in (2, 1, 0, -3, True, None, "3", 3.0, (3,), [3]):
            for reading in [((1, 3),), ((1, 2),), ((0, 1),)]:
                self.refuse_barred(LINE, here, here, True, ("signs", count, (reading,)))
                self.refuse_barred(LINE, here, ((0,), (-1,)), False, ("signs", count, (reading,)))
        # And so is 2 modulo 4.
        self.refuse_barred(LINE, ((0,), (2,)), ((0,), (2,)), True, ("signs", 4, (((1, 4),),)))
        self.accept(LINE, ((0,), (2,)), ((0,), (2,)), True, ("signs", 3, (((1, 3),),)))
        self.accept(LINE, ((0,), (2,)), ((0,), (2,)), True, ("signs", 4, (((1, 8),),)))
        # And 0.
        self.refuse_barred(LINE, here, here, True, ("signs", 3, (((0, 1),),)))
        self.refuse_barred(LINE, ((0,), (3,)), ((0,), (3,)), True, ("signs", 3, (((1, 3),),)))

    def test_readings(self):
        yard, one = ((0, 5), 3, ()), ((0, 0), (1, 0), (0, 1))
        first, second = ((1, 5), ZERO), (ZERO, (1, 5))
        self.accept(yard, one, one, True, ("signs", 5, (first, second)))
        self.accept(yard, one, one, True, ("signs", 5, (second, first)))
        for readings in [(), (first,), (first, second, second), (first, first), [first, second], (first, list(second)),
                         (first, None), (first, (ZERO,)), (first, (ZERO, (1, 25))), (first, (ZERO, (0, 5))),
                         (first, (ZERO, (2, 10))), first, None, 5, (first, ZERO), (first, (ZERO, (True, 5)))]:
            self.refuse_barred(yard, one, one, True, ("signs", 5, readings))
        for fraction in NO_FRACTIONS:
            self.refuse_barred(yard, one, one, True, ("signs", 5, (first, (ZERO, fraction))))
        for paper in [("signs", 5), ("signs", (first, second)), ("signs", 5, (first, second), ()), ("signs",),
                      ["signs", 5, (first, second)], ("sign", 5, (first, second)), ("turn", 5, (first, second)),
                      ("few", 5, (first, second)), ("signs", (first, second), 5)]:
            self.refuse_barred(yard, one, one, True, paper)

    def test_readings_of_floors_and_of_both_standings(self):
        yard = ((0,), 3, (0, 1))
        one, other = ((0,), (5,), (1,)), ((0,), (6,), (1,))
        self.accept(yard, one, one, True, ("signs", 10, (((1, 10),),)))
        # Not 0 of the floor of other, or of one.
        self.refuse_barred(yard, one, other, True, ("signs", 10, (((1, 10),),)))
        self.refuse_barred(yard, other, one, True, ("signs", 10, (((1, 10),),)))
        self.accept(yard, one, ((0,), (10,), (1,)), True, ("signs", 10, (((1, 10),),)))
        # No integer, count times, of a mover in other, or in one.
        near, far = ((0,), (1,)), ((0,), (3,))
        self.refuse_barred(LINE, far, near, True, ("signs", 3, (((1, 9),),)))
        self.refuse_barred(LINE, near, far, True, ("signs", 3, (((1, 9),),)))
        self.accept(LINE, far, far, True, ("signs", 3, (((1, 9),),)))

    def test_other_papers_for_both_numbers_of_leaps(self):
        for odd in (True, False):
            self.accept(LINE_OF_THREE, ((0,), (3,), (0,)), ((0,), (1,), (0,)), odd, ("colour", 1, ((1, 6),)))
            self.accept(LINE_OF_THREE, ((0,), (1,), (0,)), ((0,), (3,), (0,)), odd, ("span", ((1, 3),)))
            self.accept(((7,), 2, ()), ((0,), (1,)), ((0,), (2,)), odd, ("turn", 7, (((1, 7),),)))
            self.accept(((0,), 2, (1,)), ((0,), (1,)), ((0,), (2,)), odd, ("post", 1))
            self.refuse_barred(((7,), 2, ()), ((0,), (1,)), ((0,), (6,)), odd, ("turn", 7, (((1, 7),),)))
            self.refuse_barred(LINE, ((0,), (1,)), ((0,), (1,)), odd, ("few", 3, (((1, 3),),)))
        # The judge of verdicts knows no paper of signs.
        self.assertIs(shows(LINE, ((0,), (1,)), ((0,), (1,)), ("barred", ("signs", 3, (((1, 3),),)))), False)

    def test_rows(self):
        one, other = ((0,), (1,)), ((10,), (11,))
        self.assertIs(shows_so(LINE, one, other, False, ("led", [(AROUND, 5)])), True)
        self.refuse(LINE, one, other, True, ("led", [(AROUND, 5)]))
        self.assertIs(shows_so(LINE, one, ((2,), (1,)), True, ("led", [(((0, 1),), 1)])), True)
        self.refuse(LINE, one, ((2,), (1,)), False, ("led", [(((0, 1),), 1)]))
        self.assertIs(shows_so(LINE, one, one, False, ("led", [])), True)
        self.refuse(LINE, one, one, True, ("led", []))
        # On a ring of 2 points leaps change nothing, so that any number of them leads there.
        ring = ((2,), 3, ())
        here = ((0,), (1,), (1,))
        three = [(((0, 1), (0, 2)), 10 ** 50), (((0, 1),), 1)]
        self.assertIs(shows_so(ring, here, here, True, ("led", three)), True)
        self.refuse(ring, here, here, False, ("led", three))
        for row in [[(AROUND, 4)], [(AROUND[::-1], 5)], ((AROUND, 5),), [[AROUND, 5]], [(AROUND, 5.0)], [(AROUND, True)],
                    [(AROUND, 5, 0)], None, 5, [(AROUND, 5), None], [(((0, 1),), 2)], []]:
            for odd in (True, False):
                self.refuse(LINE, one, other, odd, ("led", row))

    def test_told_may_be_anything(self):
        for odd in (True, False):
            for yard, one, other in [(LINE, ((0,), (1,)), ((0,), (1,))), (LINE, ((0,), (1,)), ((2,), (1,))),
                                     (RING, ((0,), (1,)), ((0,), (2,)))]:
                right = led_so(yard, one, other, odd)
                for told in JUNK + [[*right], right + (None,), right[:1], right[::-1], (right,), ("LED",) + right[1:],
                                    (b"led",) + right[1:], (None,) + right[1:], (True,) + right[1:],
                                    ((right[0],),) + right[1:], ("barred" if right[0] == "led" else "led",) + right[1:]]:
                    self.refuse(yard, one, other, odd, told)
                for thing in JUNK:
                    for told in [("barred", thing), ("led", thing)]:
                        if told != ("led", []):
                            self.refuse(yard, one, other, odd, told)
                    for name in ("post", "span", "colour", "turn", "signs", "few"):
                        for paper in [(name,), (name, thing), (name, thing, thing), (name, 3, thing),
                                      (name, thing, (((1, 3),),)), (name, 3, (thing,)), (name, 3, ((thing,),))]:
                            self.refuse_barred(yard, one, other, odd, paper)

    def test_what_led_so_tells_is_refused_when_changed(self):
        source = random.Random(1)
        for yard in YARDS + [(ways, 4, ()) for ways in GROUNDS]:
            one = generic(yard, source.random(), 9)
            other = done(yard, one, random_row(yard, source, 3, 5))
            for odd in (True, False):
                told = led_so(yard, one, other, odd)
                if told[0] == "led":
                    row = told[1]
                    self.refuse(yard, one, other, odd, ("led", tuple(row)))
                    self.refuse(yard, one, other, odd, ("led", row + [None]))
                    self.refuse(yard, one, other, odd, ("led", row + [(((walkers_over(yard)[0]),), 1)]))
                    self.assertIs(shows_so(yard, other, one, odd, ("led", back(row))), True)
                else:
                    word, paper = told
                    self.assertEqual(paper[0], "signs")
                    for changed in [paper[:-1], paper + (1,), list(paper), ("turn",) + paper[1:], ("signs", 2, paper[2]),
                                    ("signs", paper[1], paper[2][:-1]), ("signs", paper[1], paper[2] + paper[2][:1]),
                                    ("signs", paper[1], list(paper[2])), ("signs", True, paper[2])]:
                        self.refuse(yard, one, other, odd, (word, changed))

    def test_changed_numbers_are_judged_anew(self):
        source = random.Random(4)
        for ways in GROUNDS:
            for posts in [(), (1,), (0, 2)]:
                yard = (ways, 3, posts)
                one = generic(yard, source.random(), 4)
                other = done(yard, one, random_row(yard, source, 3, 5))
                for odd in (True, False):
                    for told in number_changes(led_so(yard, one, other, odd)):
                        word, what = told
                        if word == "led":
                            right = row_wrong(yard, what) is None and done(yard, one, what) == other
                            right = right and leaps_in(what) % 2 == odd
                        else:
                            right = readings_in(ways, what) and signs_by_hand(yard, one, other, odd, what)
                        self.assertIs(shows_so(yard, one, other, odd, told), right, (yard, one, other, odd, told))

    def test_all_papers_of_signs_on_small_rings(self):
        source = random.Random(2)
        barring = 0
        for yard in [((3,), 2, ()), ((4,), 2, ()), ((6,), 2, ()), ((8,), 2, ()), ((6,), 2, (1,)), ((4,), 3, (0, 2)),
                     ((3, 3), 3, ()), ((3,), 3, ())]:
            readings = all_readings(yard[0])
            standings = standings_of(yard)
            for _ in range(10):
                one = source.choice(standings)
                reached = reached_by_parity(yard, one)
                other = source.choice([one, source.choice(standings), source.choice(sorted(reached))[0]])
                for odd in (True, False):
                    for count in (2, 3, 4, 6, 8):
                        for some in itertools.product(readings, repeat=len(movers_by_hand(yard))):
                            paper = ("signs", count, some)
                            found = shows_so(yard, one, other, odd, ("barred", paper))
                            self.assertIs(found, signs_by_hand(yard, one, other, odd, paper))
                            barring += found
                            # A paper is always right.
                            self.assertFalse(found and (other, int(odd)) in reached)
        self.assertGreater(barring, 50)

    def test_papers_of_chance(self):
        source = random.Random(3)
        barring = 0
        for ways in GROUNDS:
            for persons in (2, 3):
                for posts in [(), (0,)]:
                    yard = (ways, persons, posts)
                    for _ in range(60):
                        one = generic(yard, source.random(), 2)
                        other = source.choice([one, generic(yard, source.random(), 2)])
                        readings = tuple(random_reading(source, ways, 3) for _ in movers_by_hand(yard))
                        paper = ("signs", source.choice([2, 3, 4, 5, 6, 12, 60]), readings)
                        odd = source.choice([True, False])
                        found = signs_by_hand(yard, one, other, odd, paper)
                        self.assertIs(shows_so(yard, one, other, odd, ("barred", paper)), found)
                        barring += found
        self.assertGreater(barring, 20)


class MainPromise(unittest.TestCase):

    def test_exactly_one_of_the_two(self):
        source = random.Random(4)
        for yard in RINGS:
            standings = standings_of(yard)
            for _ in range(20):
                one, other = source.choice(standings), source.choice(standings)
                for odd in (True, False):
                    told = led_so(yard, one, other, odd)
                    self.assertIs(shows_so(yard, one, other, odd, told), True)
                    row = random_row(yard, source, 4, 5)
                    right = done(yard, one, row) == other and leaps_in(row) % 2 == odd
                    self.assertIs(shows_so(yard, one, other, odd, ("led", row)), right)
                    if right:
                        self.assertEqual(told[0], "led")
                words = {led_so(yard, one, other, odd)[0] for odd in (True, False)}
                self.assertIs("led" in words, kept(yard, one) == kept(yard, other))


if __name__ == "__main__":
    unittest.main()
