"""Promises 3, 16 and 17: papers, verdicts, and the judge of both."""

import itertools
import random
import time
import unittest
from fractions import Fraction

from leapfolk.errors import NoStanding, NoYard
from leapfolk.homes import home
from leapfolk.readings import reading_wrong
from leapfolk.rows import back, done, row_wrong
from leapfolk.turns import kept, turn_between
from leapfolk.verdicts import shows, verdict
from tests.samples import (
    BIG, JUNK, LINE, LINE_OF_THREE, POSTED, RING, YARDS, Unchanged, classes_of, determinant_by_hand,
    differences_by_hand, digits_of, floor_by_hand, generic, is_plain, minus, movers_by_hand, random_row,
    refusal_class, standings_of,
)
from tests.test_homes import GROUNDS, LONG_GROUNDS, RINGS, close_numbers
from tests.test_readings import NO_FRACTIONS, random_reading, read_by_hand

ZERO = (0, 1)


def all_readings(ways):
    """Return all readings of rings."""
    choices = [[Fraction(k, way) for k in range(way)] for way in ways]
    return [tuple((f.numerator, f.denominator) for f in some) for some in itertools.product(*choices)]


def bars_by_hand(yard, one, other, paper):
    """Return whether a paper with parts of the right kinds bars, word by word as the document has it."""
    word = paper[0]
    movers = movers_by_hand(yard)
    here, there = differences_by_hand(yard, one), differences_by_hand(yard, other)
    if word == "post":
        return one[paper[1]] != other[paper[1]]
    if word == "span":
        zero = all(read_by_hand(paper[1], v) == ZERO for v in floor_by_hand(yard, other) + there)
        return zero and any(read_by_hand(paper[1], v) != ZERO for v in here)
    if word == "colour":
        _, person, reading = paper
        halves = all(read_by_hand(reading, minus(a, b)) in (ZERO, (1, 2)) for a in one for b in one)
        return halves and read_by_hand(reading, minus(one[person], other[person])) != ZERO
    _, count, readings = paper
    if len(readings) != len(movers):
        return False
    for reading in readings:
        if any(read_by_hand(reading, v) != ZERO for v in floor_by_hand(yard, one) + floor_by_hand(yard, other)):
            return False
        if any(count % read_by_hand(reading, v)[1] for v in here + there):
            return False
    first, then = [
        determinant_by_hand([[int(count * Fraction(*read_by_hand(reading, v))) for v in vectors]
                             for reading in readings])
        for vectors in (here, there)
    ]
    return (first - then) % count != 0 and (first + then) % count != 0


def changed_standings(yard, standing, source):
    """Return standings that differ from one a row leads to by what rows may keep."""
    ways, persons, posts = yard
    walkers = [person for person in range(persons) if person not in posts]
    after = done(yard, standing, random_row(yard, source, 3, 5))
    found = [after, generic(yard, source.random(), 3)]
    found.append(tuple(after[k] if k in posts else point for k, point in enumerate(found[1])))

    def moved(person, times, i, j):
        point = tuple(
            (x + times * (y - z)) % way if way else x + times * (y - z)
            for x, y, z, way in zip(after[person], after[i], after[j], ways)
        )
        return after[:person] + (point,) + after[person + 1:]

    for times in (1, 2, 3, 4):
        # A person moved by a multiple of a difference, a walker or a post.
        found.append(moved(source.choice(walkers), times, source.randrange(persons), source.randrange(persons)))
        found.append(moved(source.randrange(persons), times, source.randrange(persons), source.randrange(persons)))
    i, j = source.choice(walkers), source.choice(walkers)
    exchanged = list(after)
    exchanged[i], exchanged[j] = after[j], after[i]
    found.append(tuple(exchanged))
    for times in (2, 3, -1):
        found.append(tuple(tuple(times * n % way if way else times * n for n, way in zip(p, ways)) for p in after))
    return found


class Verdict(unittest.TestCase):

    def check(self, yard, one, other):
        with Unchanged(self, yard, one, other):
            told = verdict(yard, one, other)
        self.assertIs(type(told), tuple)
        self.assertEqual(len(told), 2)
        self.assertTrue(is_plain(told))
        word, what = told
        if word == "led":
            self.assertIs(type(what), list)
            self.assertIsNone(row_wrong(yard, what))
            self.assertEqual(done(yard, one, what), other)
            digits = max(digits_of(yard), digits_of(one), digits_of(other))
            self.assertLessEqual(len(what), 5000 * digits)
        else:
            self.assertEqual(word, "barred")
            self.assertIs(type(what), tuple)
            self.assertTrue(bars_by_hand(yard, one, other, what), (yard, one, other, what))
        if max(digits_of(yard), digits_of(one), digits_of(other)) <= 60:
            self.assertLessEqual(digits_of(what), 4000)
        self.assertIs(shows(yard, one, other, told), True)
        self.assertIs(kept(yard, one) == kept(yard, other), word == "led")
        return told

    def test_ordinary_answers(self):
        self.assertEqual(self.check(((5,), 2, ()), ((0,), (1,)), ((0,), (2,)))[0], "barred")
        self.assertEqual(self.check(((5,), 3, ()), ((0,), (1,), (0,)), ((0,), (2,), (0,)))[0], "led")
        self.assertEqual(self.check(LINE, ((0,), (1,)), ((2,), (3,)))[0], "led")
        self.assertEqual(self.check(LINE, ((0,), (1,)), ((1,), (0,)))[0], "barred")
        self.assertEqual(self.check(LINE, ((0,), (1,)), ((0,), (-1,)))[0], "led")
        self.assertEqual(self.check(((0,), 2, (0,)), ((0,), (1,)), ((1,), (1,)))[0], "barred")
        self.assertEqual(self.check(((0,), 3, (0, 2)), ((0,), (1,), (3,)), ((0,), (6001,), (3,)))[0], "led")
        self.assertEqual(self.check(((0,), 3, (0, 2)), ((0,), (1,), (3,)), ((0,), (6003,), (3,)))[0], "barred")

    def test_all_standings_that_leaps_lead_to(self):
        source = random.Random(1)
        words = set()
        for yard in RINGS:
            numbers = classes_of(yard)
            standings = list(numbers)
            pairs = list(itertools.product(standings, repeat=2)) if len(standings) <= 36 else [
                (source.choice(standings), source.choice(standings)) for _ in range(250)]
            by_number = {}
            for standing in standings:
                by_number.setdefault(numbers[standing], []).append(standing)
            pairs += [(one, source.choice(by_number[numbers[one]])) for one in source.choices(standings, k=150)]
            for one, other in pairs:
                if source.randrange(2):
                    other = tuple(one[k] if k in yard[2] else point for k, point in enumerate(other))
                word, what = self.check(yard, one, other)
                self.assertEqual(word, "led" if numbers[one] == numbers[other] else "barred")
                words.add(what[0] if word == "barred" else word)
                turn = turn_between(yard, one, other)
                if word == "led" and turn is not None:
                    self.assertEqual(turn[1], 1)
        self.assertEqual(words, {"led", "post", "span", "colour", "turn"})

    def test_grounds_of_all_kinds(self):
        source = random.Random(2)
        seen = set()
        for ways in GROUNDS:
            for persons in range(2, 7):
                for many in {0, 1, source.randrange(persons), persons - 1}:
                    yard = (ways, persons, tuple(sorted(source.sample(range(persons), many))))
                    standing = generic(yard, source.random(), source.choice([1, 2, 9]))
                    for k, other in enumerate(changed_standings(yard, standing, source)):
                        word, what = self.check(yard, standing, other)
                        seen.add(word if word == "led" else what[0])
                        if k == 0:
                            self.assertEqual(word, "led")
                        there = self.check(yard, other, standing)
                        self.assertEqual(there[0], word)
        self.assertEqual(seen, {"led", "post", "span", "colour", "turn"})

    def test_a_standing_itself(self):
        for yard in YARDS:
            standing = generic(yard)
            self.assertEqual(self.check(yard, standing, standing)[0], "led")

    def test_sixty_digits(self):
        source = random.Random(3)
        start = time.monotonic()
        for ways in LONG_GROUNDS:
            for persons, posts in [(2, ()), (3, ()), (4, (2,)), (5, (1, 3)), (6, ()), (6, (0, 2, 3)), (6, (0, 1, 2, 4))]:
                yard = (ways, persons, posts)
                for make in (lambda: generic(yard, source.random(), 10 ** 30),
                             lambda: close_numbers(yard, source, 10 ** 30)):
                    one = make()
                    other = done(yard, one, random_row(yard, source, 2, 10 ** 14))
                    self.assertEqual(self.check(yard, one, other)[0], "led")
                    walker = max(person for person in range(persons) if person not in posts)
                    point = tuple((n + 2) % way if way else n + 2 for n, way in zip(other[walker], ways))
                    self.check(yard, one, other[:walker] + (point,) + other[walker + 1:])
                one, other = generic(yard, source.random(), BIG), generic(yard, source.random(), BIG)
                self.check(yard, one, other)
                self.check(yard, one, tuple(one[k] if k in posts else point for k, point in enumerate(other)))
        self.assertLess(time.monotonic() - start, 120)

    def test_turns_with_sixty_digits(self):
        size = 10 ** 60 - 1
        for yard, one, other in [
            (((size,), 2, ()), ((0,), (1,)), ((0,), (2,))),
            (((size, size), 3, ()), ((0, 0), (1, 0), (0, 1)), ((0, 0), (2, 0), (0, 1))),
            (((0, size), 3, (0, 1)), ((0, 0), (size, 0), (0, 1)), ((0, 0), (size, 0), (0, 2))),
            (((0,), 3, (0, 1)), ((0,), (size,), (1,)), ((0,), (size,), (17,))),
        ]:
            told = self.check(yard, one, other)
            self.assertEqual(told[1][0], "turn")
            self.assertEqual(self.check(yard, one, one)[0], "led")

    def test_thousands_of_digits(self):
        source = random.Random(4)
        for yard in [((0,), 3, ()), ((0, 0), 4, (1,)), ((0, 12), 5, (0, 2)), ((BIG, 0), 3, ())]:
            one = generic(yard, 2, BIG)
            far = done(yard, one, random_row(yard, source, 4, 10 ** 600))
            self.assertEqual(self.check(yard, one, far)[0], "led")
            self.assertEqual(self.check(yard, far, one)[0], "led")

    def test_rows_are_new(self):
        for yard in YARDS:
            one = generic(yard, 1, 9)
            other = home(yard, one)[0]
            _, row = verdict(yard, one, other)
            again = list(row)
            row.append("mine")
            row.reverse()
            self.assertEqual(verdict(yard, one, other), ("led", again))

    def test_wrong_standings_and_yards(self):
        right = ((0,), (1,))
        told = ("led", [])
        for thing in JUNK + [[(0,), (1,)], ((0,),), ((0,), [1]), ((0,), (True,)), ((0,), (5,)), ((0,), (-1,))]:
            for call, more in ((verdict, ()), (shows, (told,)), (shows, (None,)), (shows, (thing,))):
                self.assertIs(refusal_class(call, RING, thing, right, *more), NoStanding, thing)
                self.assertIs(refusal_class(call, RING, right, thing, *more), NoStanding, thing)
                self.assertIs(refusal_class(call, RING, thing, thing, *more), NoStanding, thing)
                self.assertIs(refusal_class(call, thing, right, right, *more), NoYard, thing)
                self.assertIs(refusal_class(call, thing, thing, None, *more), NoYard, thing)
                self.assertIs(refusal_class(call, thing, right, thing, *more), NoYard, thing)


class Shows(unittest.TestCase):

    def refuse(self, yard, one, other, told):
        with Unchanged(self, yard, one, other):
            self.assertIs(shows(yard, one, other, told), False, (yard, one, other, told))

    def refuse_barred(self, yard, one, other, paper):
        self.refuse(yard, one, other, ("barred", paper))

    def test_examples_of_papers(self):
        self.assertIs(shows(LINE_OF_THREE, ((0,), (3,), (0,)), ((0,), (1,), (0,)), ("barred", ("colour", 1, ((1, 6),)))),
                      True)
        self.assertIs(shows(LINE_OF_THREE, ((0,), (1,), (0,)), ((0,), (3,), (0,)), ("barred", ("span", ((1, 3),)))), True)
        self.assertIs(shows(((7,), 2, ()), ((0,), (1,)), ((0,), (2,)), ("barred", ("turn", 7, (((1, 7),),)))), True)
        self.assertIs(shows(((0,), 2, (1,)), ((0,), (1,)), ((0,), (2,)), ("barred", ("post", 1))), True)

    def test_no_span_paper_bars_where_only_a_colour_paper_does(self):
        one, other = ((0,), (3,), (0,)), ((0,), (1,), (0,))
        for bottom in range(1, 40):
            for top in range(-bottom, bottom + 1):
                fraction = Fraction(top, bottom)
                self.refuse_barred(LINE_OF_THREE, one, other, ("span", ((fraction.numerator, fraction.denominator),)))

    def test_all_papers_on_small_rings(self):
        for yard in [((4,), 2, ()), ((5,), 2, ()), ((6,), 2, ()), ((6,), 2, (1,)), ((4,), 3, (0, 2)), ((3,), 3, ()),
                     ((2, 2), 2, ())]:
            numbers = classes_of(yard)
            readings = all_readings(yard[0])
            papers = [("post", post) for post in yard[2]] + [("span", reading) for reading in readings]
            papers += [("colour", person, reading) for person in range(yard[1]) for reading in readings]
            papers += [("turn", count, some) for count in (2, 3, 4, 5, 6, 12)
                       for some in itertools.product(readings, repeat=len(movers_by_hand(yard)))]
            source = random.Random(5)
            for _ in range(60):
                one, other = source.choices(list(numbers), k=2)
                if source.randrange(2):
                    other = tuple(one[k] if k in yard[2] else point for k, point in enumerate(other))
                barred = False
                for paper in papers:
                    found = shows(yard, one, other, ("barred", paper))
                    self.assertIs(found, bars_by_hand(yard, one, other, paper), (yard, one, other, paper))
                    barred = barred or found
                self.assertIs(barred, numbers[one] != numbers[other])

    def test_papers_are_judged_by_their_own_conditions(self):
        source = random.Random(6)
        barring = {}
        for ways in GROUNDS:
            for persons in (2, 3, 4):
                for many in range(min(3, persons)):
                    yard = (ways, persons, tuple(sorted(source.sample(range(persons), many))))
                    for _ in range(40):
                        one = generic(yard, source.random(), 2)
                        other = generic(yard, source.random(), source.choice([2, 4]))
                        if source.randrange(2):
                            other = source.choice(changed_standings(yard, one, source))
                        reading = random_reading(source, ways, 4)
                        size = len(movers_by_hand(yard))
                        for paper in [("span", reading), ("colour", source.randrange(persons), reading),
                                      ("turn", source.randint(2, 9), (reading,) * size),
                                      ("turn", source.choice([2, 4, 6, 12]),
                                       tuple(random_reading(source, ways, 3) for _ in range(size)))]:
                            found = bars_by_hand(yard, one, other, paper)
                            self.assertIs(shows(yard, one, other, ("barred", paper)), found, (yard, one, other, paper))
                            barring[paper[0]] = barring.get(paper[0], 0) + found
        self.assertTrue(barring["span"] > 5 and barring["colour"] > 5, barring)

    def test_post_papers(self):
        yard, one, other = ((0, 6), 4, (1, 3)), ((0, 0), (1, 1), (2, 2), (3, 3)), ((5, 5), (1, 1), (0, 0), (3, 4))
        self.assertIs(shows(yard, one, other, ("barred", ("post", 3))), True)
        for k in (0, 1, 2, 4, -1, True, None, "3", (3,), 3.0, [3]):
            self.refuse_barred(yard, one, other, ("post", k))
        for paper in [("post",), ("post", 3, 3), ["post", 3], "post", ("posts", 3), ("POST", 3), (b"post", 3), (3,),
                      ("post", 3, ()), (None, 3), ("span", 3), ("turn", 3), ("colour", 3)]:
            self.refuse_barred(yard, one, other, paper)

    def test_broken_span_papers(self):
        yard, one, other = LINE_OF_THREE, ((0,), (1,), (0,)), ((0,), (3,), (0,))
        for fraction in [(1, 3), (2, 3), (-1, 3), (4, 3)]:
            self.assertIs(shows(yard, one, other, ("barred", ("span", (fraction,)))), True)
        for fraction in [(0, 1), (1, 1), (1, 2), (1, 6), (1, 9), (3, 1)] + NO_FRACTIONS:
            self.refuse_barred(yard, one, other, ("span", (fraction,)))
        for paper in [("span",), ("span", ((1, 3),), 1), ("span", 1, ((1, 3),)), ["span", ((1, 3),)],
                      ("span", [(1, 3)]), ("span", (1, 3)), ("span", ([1, 3],)), ("span", ((1, 3), (0, 1))),
                      ("spans", ((1, 3),)), ("colour", ((1, 3),)), ("turn", ((1, 3),)), ("post", ((1, 3),)), ((1, 3),)]:
            self.refuse_barred(yard, one, other, paper)
        # The other way around the reading is not 0 of other.
        self.refuse_barred(yard, other, one, ("span", ((1, 3),)))

    def test_span_papers_look_at_the_floor_of_other(self):
        yard = ((0,), 3, (0, 1))
        one, other = ((0,), (3,), (1,)), ((0,), (3,), (4,))
        # Of other's movers the reading is 0, but not of its floor.
        self.refuse_barred(yard, one, other, ("span", ((1, 4),)))
        self.assertIs(shows(yard, one, other, ("barred", ("span", ((1, 2),)))), True)
        # Where posts stand elsewhere, only the floor of other counts.
        self.assertIs(shows(yard, ((0,), (1,), (1,)), ((0,), (6,), (4,)), ("barred", ("span", ((1, 4),)))), True)

    def test_broken_colour_papers(self):
        yard, one, other = LINE_OF_THREE, ((0,), (3,), (0,)), ((0,), (1,), (0,))
        for fraction in [(1, 6), (-1, 6), (5, 6), (7, 6), (1, 3), (1, 2 * 3)]:
            self.assertIs(shows(yard, one, other, ("barred", ("colour", 1, (fraction,)))), True)
        for fraction in [(0, 1), (1, 2), (1, 1), (1, 12), (1, 4), (1, 5)] + NO_FRACTIONS:
            self.refuse_barred(yard, one, other, ("colour", 1, (fraction,)))
        for person in (0, 2, 3, -1, -2, True, None, "1", 1.0, (1,), [1]):
            self.refuse_barred(yard, one, other, ("colour", person, ((1, 6),)))
        for paper in [("colour", 1), ("colour", ((1, 6),)), ("colour", 1, ((1, 6),), 1), ["colour", 1, ((1, 6),)],
                      ("colour", 1, [(1, 6)]), ("colour", 1, (1, 6)), ("colour", 1, ([1, 6],)), ("color", 1, ((1, 6),)),
                      ("colour", 1, ((1, 6), (0, 1))), ("turn", 1, ((1, 6),)), ("span", 1, ((1, 6),)), ("colour",)]:
            self.refuse_barred(yard, one, other, paper)
        # Twice the reading must be an integer for all persons in one, posts and person 0 included.
        self.refuse_barred(((0,), 3, (2,)), ((0,), (0,), (1,)), ((0,), (2,), (1,)), ("colour", 1, ((1, 4),)))
        self.assertIs(shows(((0,), 3, (2,)), ((0,), (0,), (2,)), ((0,), (2,), (2,)),
                            ("barred", ("colour", 1, ((1, 4),)))), True)

    def test_broken_turn_papers(self):
        yard, one, other = ((5, 5), 3, ()), ((0, 0), (1, 0), (0, 1)), ((3, 3), (0, 3), (3, 4))
        first, second = ((1, 5), (0, 1)), ((0, 1), (1, 5))
        self.assertIs(shows(yard, one, other, ("barred", ("turn", 5, (first, second)))), True)
        self.assertIs(shows(yard, one, other, ("barred", ("turn", 5, (second, first)))), True)
        self.assertIs(shows(yard, one, other, ("barred", ("turn", 10, (first, second)))), True)
        for count in (1, 0, -5, 2, 3, 4, 6, 7, True, None, "5", 5.0, (5,), [5]):
            self.refuse_barred(yard, one, other, ("turn", count, (first, second)))
        for readings in [(), (first,), (first, second, second), (first, first), [first, second], (first, list(second)),
                         (first, None), (first, ((0, 1),)), (first, ((0, 1), (1, 25))), (first, ((0, 1), (0, 5))),
                         (first, ((0, 1), (2, 10))), first, None, 5, (first, (0, 1)), (first, ((0, 1), (True, 5)))]:
            self.refuse_barred(yard, one, other, ("turn", 5, readings))
        for paper in [("turn", 5), ("turn", (first, second)), ("turn", 5, (first, second), ()), ("turn",),
                      ["turn", 5, (first, second)], ("turns", 5, (first, second)), ("signs", 5, (first, second)),
                      ("turn", (first, second), 5), ("colour", 5, (first, second))]:
            self.refuse_barred(yard, one, other, paper)
        # Equal, and equal but for the sign.
        self.refuse_barred(yard, one, ((0, 0), (1, 0), (0, 4)), ("turn", 5, (first, second)))
        self.refuse_barred(yard, one, one, ("turn", 5, (first, second)))

    def test_turn_papers_without_turns(self):
        # Neither standing needs to have a turn, and count need not be the first maker.
        self.assertIs(shows(LINE, ((0,), (1,)), ((0,), (2,)), ("barred", ("turn", 7, (((1, 7),),)))), True)
        self.assertIs(shows(LINE, ((0,), (1,)), ((0,), (2,)), ("barred", ("turn", 3, (((1, 3),),)))), False)
        self.assertIs(shows(((12,), 2, ()), ((0,), (1,)), ((0,), (5,)), ("barred", ("turn", 12, (((1, 12),),)))), True)
        self.assertIs(shows(((12,), 2, ()), ((0,), (1,)), ((0,), (5,)), ("barred", ("turn", 6, (((1, 6),),)))), False)
        # The readings are to be 0 of the floors of both.
        yard = ((0,), 3, (0, 1))
        self.assertIs(shows(yard, ((0,), (5,), (1,)), ((0,), (10,), (3,)), ("barred", ("turn", 10, (((1, 10),),)))), True)
        self.refuse_barred(yard, ((0,), (5,), (1,)), ((0,), (6,), (3,)), ("turn", 10, (((1, 10),),)))
        self.refuse_barred(yard, ((0,), (6,), (1,)), ((0,), (5,), (3,)), ("turn", 10, (((1, 10),),)))

    def test_rows_are_judged(self):
        yard, one = LINE, ((0,), (1,))
        other = ((10,), (11,))
        around = ((0, 1), (1, 0))
        for row in [[(around, 5)], [(around, 2), (around, 3)], [(around * 5, 1)], [(((0, 1),), 1), (((1, 0),), 1), (around, 4)]]:
            self.assertIs(shows(yard, one, other, ("led", row)), True)
        for row in [[], [(around, 4)], [(around, 6)], [(around[::-1], 5)], ((around, 5),), [[around, 5]], [(list(around), 5)],
                    [(around, 5.0)], [(around, "5")], [(around, True)], [(around, 5, 0)], [(around,)], [around, 5],
                    [(((0, 1), [1, 0]), 5)], [(((0, 1), (1, False)), 5)], [(((0, 2), (1, 0)), 5)], None, 5, "row",
                    [(around, 5), None], [(around, 0)], [(around, -5)], [(around, 10), (around, -5)], {0: (around, 5)}]:
            self.refuse(yard, one, other, ("led", row))
        self.assertIs(shows(yard, one, one, ("led", [])), True)
        self.refuse(yard, one, one, ("led", ()))
        # A post does not leap, and a single leap is not steady.
        self.refuse(((0,), 2, (0,)), one, ((2,), (1,)), ("led", [(((0, 1),), 1)]))
        self.refuse(((2,), 2, ()), one, one, ("led", [(((0, 1),), 2)]))

    def test_told_may_be_anything(self):
        one, other = ((0,), (1,)), ((2,), (3,))
        row = [(((0, 1), (1, 0)), 1)]
        self.assertIs(shows(LINE, one, other, ("led", row)), True)
        for told in JUNK + [
            ["led", row], ("led",), ("led", row, row), ("led", row, None), ("LED", row), ("barred", row), (row, "led"),
            (b"led", row), ("", row), (None, row), (True, row), (1, row), (("led",), row), (["led"], row), "led", row,
            ("led", None), ("barred", None), ("barred", ()), ("barred", "post"), ("barred", ((),)), ("barred", ([],)),
            ("barred", (None, 1)), ("barred", [("post", 0)]), {"led": row}, {"led", "row"},
        ]:
            self.refuse(LINE, one, other, told)
            self.refuse(RING, ((0,), (1,)), ((0,), (2,)), told)
        for thing in JUNK:
            for word in ("led", "barred"):
                if (word, thing) != ("led", []):
                    self.refuse(LINE, one, other, (word, thing))
            for name in ("post", "span", "colour", "turn", "signs", "few"):
                self.refuse(LINE, one, other, ("barred", (name, thing)))
                self.refuse(LINE, one, other, ("barred", (name, thing, thing)))
                self.refuse(LINE, one, other, ("barred", (name, 1, thing)))
                self.refuse(LINE, one, other, ("barred", (name, thing, ((1, 2),))))
                self.refuse(LINE, one, other, ("barred", (name, thing, (((1, 2),),))))

    def test_verdicts_of_other_pairs_are_refused(self):
        source = random.Random(7)
        for yard in YARDS:
            one = generic(yard, 3, 9)
            for other in changed_standings(yard, one, source):
                word, what = verdict(yard, one, other)
                self.refuse(yard, one, other, ("barred" if word == "led" else "led", what))
                self.refuse(yard, one, other, [word, what])
                if word == "led":
                    self.refuse(yard, one, other, (word, tuple(what)))
                    self.refuse(yard, one, other, (word, what + [None]))
                    if one != other:
                        self.refuse(yard, one, one, (word, what))
                        self.assertIs(shows(yard, other, one, (word, back(what))), True)
                else:
                    self.refuse(yard, one, one, (word, what))
                    self.refuse(yard, one, other, (word, what[:-1]))
                    self.refuse(yard, one, other, (word, list(what)))
                    self.refuse(yard, one, other, (word, what + (1,)))

    def test_readings_of_returned_papers(self):
        source = random.Random(8)
        for yard in YARDS:
            one = generic(yard, 6, 9)
            for other in changed_standings(yard, one, source):
                word, what = verdict(yard, one, other)
                if word == "barred" and what[0] != "post":
                    for reading in what[2] if what[0] == "turn" else [what[-1]]:
                        self.assertIsNone(reading_wrong(yard, reading))


class MainPromise(unittest.TestCase):

    def test_exactly_one_of_the_two(self):
        # The judge accepts a row only if it leads there and a paper only if no row does; the verdict passes it.
        source = random.Random(9)
        for yard in RINGS:
            standings = standings_of(yard)
            for _ in range(20):
                one, other = source.choice(standings), source.choice(standings)
                told = verdict(yard, one, other)
                self.assertIs(shows(yard, one, other, told), True)
                row = random_row(yard, source, 4, 5)
                self.assertIs(shows(yard, one, other, ("led", row)), done(yard, one, row) == other)
                if done(yard, one, row) == other:
                    self.assertEqual(told[0], "led")

    def test_papers_stay_right_after_rows(self):
        # What bars one from other bars it also from wherever rows lead from other, and wherever one is led to.
        source = random.Random(10)
        for ways in GROUNDS:
            for posts in [(), (1,), (0, 3)]:
                yard = (ways, 4, posts)
                one = generic(yard, source.random(), 3)
                for other in changed_standings(yard, one, source):
                    told = verdict(yard, one, other)
                    if told[0] == "barred":
                        here = done(yard, one, random_row(yard, source, 4, 5))
                        there = done(yard, other, random_row(yard, source, 4, 5))
                        self.assertIs(shows(yard, here, there, told), True)


if __name__ == "__main__":
    unittest.main()
