"""Promise 25: persons brought together on one point."""

import itertools
import math
import random
import time
import unittest
from fractions import Fraction

from leapfolk.crowds import greatest_crowd, meeting, meets
from leapfolk.errors import NoPerson, NoStanding, NoYard
from leapfolk.makers import makers
from leapfolk.rows import back, done, row_wrong
from leapfolk.turns import kept
from leapfolk.wishes import granted
from tests.samples import (
    BIG, JUNK, LINE, LINE_OF_THREE, RING, Unchanged, classes_of, determinant_by_hand, digits_of, generic, is_plain,
    minus, random_row, refusal, refusal_class,
)
from tests.test_homes import GROUNDS, LONG_GROUNDS, close_numbers
from tests.test_readings import NO_FRACTIONS, random_reading, read_by_hand
from tests.test_verdicts import all_readings
from tests.test_wishes import number_changes, readings_in

ZERO = (0, 1)
RINGS = [
    ((2,), 2), ((3,), 2), ((2,), 4), ((3,), 3), ((4,), 3), ((5,), 3), ((6,), 3), ((8,), 3), ((9,), 3), ((3,), 4), ((4,), 4),
    ((6,), 4), ((3,), 5), ((2,), 6), ((2, 2), 3), ((2, 4), 3), ((3, 3), 3), ((2, 2), 4), ((2, 2, 2), 3), ((2, 3), 4),
    ((12,), 2),
]


def groups_of(persons):
    """Return all groups of at least two persons."""
    return [some for size in range(2, persons + 1) for some in itertools.combinations(range(persons), size)]


def together(standing, group):
    """Return whether the group stands on one point."""
    return len({standing[person] for person in group}) == 1


def bars_by_hand(yard, standing, group, paper):
    """Return whether a paper with parts of the right kinds bars, word by word as the document has it."""
    if paper[0] == "colour":
        _, i, j, reading = paper
        halves = all(read_by_hand(reading, minus(a, b)) in (ZERO, (1, 2)) for a in standing for b in standing)
        return i in group and j in group and halves and read_by_hand(reading, minus(standing[i], standing[j])) != ZERO
    _, count, readings = paper
    if count < 2 or len(readings) != len(standing) - len(group) + 1:
        return False
    vectors = [minus(point, standing[0]) for point in standing[1:]]
    table = [[count * Fraction(*read_by_hand(reading, v)) for v in vectors] for reading in readings]
    if any(number.denominator != 1 for row in table for number in row):
        return False
    found = count
    for some in itertools.combinations(range(len(vectors)), len(readings)):
        found = math.gcd(found, int(determinant_by_hand([[row[c] for c in some] for row in table])))
    return found == 1


class Meeting(unittest.TestCase):

    def check(self, yard, standing, group):
        with Unchanged(self, yard, standing, group):
            told = meeting(yard, standing, group)
        self.assertIs(type(told), tuple)
        self.assertTrue(is_plain(told))
        digits = max(digits_of(yard), digits_of(standing))
        if told[0] == "led":
            _, row, end = told
            self.assertIs(type(row), list)
            self.assertIs(type(end), tuple)
            self.assertIsNone(row_wrong(yard, row))
            self.assertEqual(done(yard, standing, row), end)
            self.assertTrue(together(end, group), (yard, standing, group, end))
            self.assertLessEqual(len(row), 5000 * digits)
        else:
            word, paper = told
            self.assertEqual(word, "barred")
            self.assertIs(type(paper), tuple)
            self.assertTrue(bars_by_hand(yard, standing, group, paper), (yard, standing, group, paper))
        if digits <= 60:
            self.assertLessEqual(digits_of(told), 4000)
        self.assertIs(meets(yard, standing, group, told), True)
        return told

    def crowd(self, yard, standing):
        """Return the greatest crowd, after a check that it is the size of the largest group that can meet."""
        with Unchanged(self, yard, standing):
            found = greatest_crowd(yard, standing)
        self.assertIs(type(found), int)
        sizes = [len(group) for group in groups_of(yard[1]) if self.check(yard, standing, group)[0] == "led"]
        self.assertEqual(found, max(sizes, default=1))
        return found

    def test_ordinary_answers(self):
        self.assertEqual(self.crowd(LINE_OF_THREE, ((0,), (1,), (2,))), 2)
        self.assertEqual(self.check(LINE_OF_THREE, ((0,), (1,), (2,)), (0, 2))[0], "led")
        self.assertEqual(self.check(LINE_OF_THREE, ((0,), (1,), (2,)), (0, 1))[1][0], "colour")
        self.assertEqual(self.check(LINE, ((3,), (3,)), (0, 1))[0], "led")
        self.assertEqual(self.check(LINE, ((3,), (7,)), (0, 1))[1][0], "colour")
        self.assertEqual(self.check(RING, ((0,), (1,)), (0, 1))[1][0], "few")
        self.assertEqual(self.crowd(RING, ((0,), (1,))), 1)
        self.assertEqual(self.crowd(RING, ((1,), (1,))), 2)
        self.assertEqual(self.crowd(((5,), 3, ()), ((0,), (1,), (3,))), 2)
        self.assertEqual(self.crowd(((0,), 6, ()), ((0,), (1,), (3,), (5,), (9,), (11,))), 5)
        self.assertEqual(self.crowd(((0, 0), 4, ()), ((0, 0), (1, 0), (0, 1), (1, 1))), 1)
        self.assertEqual(self.crowd(((0, 0), 4, ()), ((0, 0), (2, 0), (0, 2), (1, 1))), 2)

    def test_all_standings_that_leaps_lead_to(self):
        source = random.Random(1)
        seen = {}
        for ways, persons in RINGS:
            yard = (ways, persons, ())
            numbers, members = classes_of(yard), {}
            for standing, number in numbers.items():
                members.setdefault(number, []).append(standing)
            standings = list(numbers)
            for standing in standings if len(standings) <= 30 else source.sample(standings, 12):
                reached = members[numbers[standing]]
                best = 1
                for group in groups_of(persons):
                    told = self.check(yard, standing, group)
                    possible = any(together(end, group) for end in reached)
                    self.assertEqual(told[0] == "led", possible, (yard, standing, group))
                    if possible:
                        self.assertEqual(numbers[told[2]], numbers[standing])
                        best = max(best, len(group))
                    word = told[0] if told[0] == "led" else told[1][0]
                    seen[word] = seen.get(word, 0) + 1
                self.assertEqual(greatest_crowd(yard, standing), best)
        self.assertEqual(sorted(seen), ["colour", "few", "led"])
        self.assertTrue(min(seen.values()) > 10, seen)

    def test_grounds_of_all_kinds(self):
        source = random.Random(2)
        seen = {}
        for ways in GROUNDS:
            for persons in range(2, 7):
                yard = (ways, persons, ())
                for bound in (1, 2, 9):
                    standing = generic(yard, source.random(), bound)
                    crowd = self.crowd(yard, standing)
                    after = done(yard, standing, random_row(yard, source, 4, 5))
                    self.assertEqual(greatest_crowd(yard, after), crowd)
                    for group in groups_of(persons)[:6]:
                        told = self.check(yard, standing, group)
                        again = self.check(yard, after, group)
                        self.assertEqual(again[0], told[0])
                        if told[0] == "barred":
                            self.assertIs(meets(yard, after, group, told), True)
                        word = told[0] if told[0] == "led" else told[1][0]
                        seen[word] = seen.get(word, 0) + 1
        self.assertTrue(min(seen.values()) > 10 and len(seen) == 3, seen)

    def test_leaps_one_by_one_on_lines(self):
        # What a search of a few leaps finds can meet; what can meet is found by a search of a few leaps more.
        for standing in itertools.product(range(3), repeat=3):
            start = tuple((x,) for x in standing)
            reached = {start}
            for _ in range(5):
                for here in list(reached):
                    for i, j in itertools.permutations(range(3), 2):
                        there = list(here)
                        there[i] = (2 * here[j][0] - here[i][0],)
                        reached.add(tuple(there))
            for group in groups_of(3):
                found = any(together(end, group) for end in reached)
                self.assertEqual(self.check(LINE_OF_THREE, start, group)[0] == "led", found, (start, group))

    def test_all_on_one_point(self):
        for ways in GROUNDS:
            for persons in (2, 4, 6):
                yard = (ways, persons, ())
                standing = (generic(yard)[0],) * persons
                self.assertEqual(greatest_crowd(yard, standing), persons)
                self.assertEqual(self.check(yard, standing, tuple(range(persons)))[0], "led")

    def test_met_already(self):
        yard, standing = ((0, 6), 4, ()), ((1, 2), (1, 2), (4, 5), (1, 2))
        for group in [(0, 1), (1, 3), (0, 3), (0, 1, 3)]:
            self.assertEqual(self.check(yard, standing, group)[0], "led")
        self.assertEqual(self.check(yard, standing, (0, 2))[1][0], "colour")
        self.assertEqual(self.crowd(yard, standing), 3)

    def test_a_meeting_is_a_wish(self):
        source = random.Random(3)
        for ways in GROUNDS:
            yard = (ways, 4, ())
            standing = generic(yard, source.random(), 4)
            for group in groups_of(4):
                told = self.check(yard, standing, group)
                if told[0] == "led":
                    point = told[2][group[0]]
                    wishes = tuple(point if person in group else None for person in range(4))
                    self.assertEqual(granted(yard, standing, wishes)[0], "led")
                    self.assertTrue(kept(yard, standing) == kept(yard, told[2]))
                    self.assertEqual(done(yard, told[2], back(told[1])), standing)

    def test_as_many_others_as_makers(self):
        source = random.Random(4)
        for ways in GROUNDS:
            for persons in range(3, 7):
                yard = (ways, persons, ())
                # All in one colour but for the few that make the span.
                standing = tuple(tuple(2 * x % way if way else 2 * x for x, way in zip(point, ways))
                                 for point in generic(yard, source.random(), 3))
                for _ in range(3):
                    crowd = self.crowd(yard, standing)
                    self.assertLessEqual(crowd, persons - len(makers(yard, standing)))
                    standing = done(yard, standing, random_row(yard, source, 3, 3))

    def test_sixty_digits(self):
        source = random.Random(5)
        start = time.monotonic()
        seen = set()
        for ways in LONG_GROUNDS:
            for persons in (2, 3, 5, 6):
                yard = (ways, persons, ())
                for standing in (generic(yard, source.random(), BIG), close_numbers(yard, source, BIG)):
                    best = greatest_crowd(yard, standing)
                    for group in source.sample(groups_of(persons), min(8, len(groups_of(persons)))):
                        told = self.check(yard, standing, group)
                        seen.add(told[0] if told[0] == "led" else told[1][0])
                        if told[0] == "led":
                            self.assertLessEqual(len(group), best)
        self.assertEqual(seen, {"led", "colour", "few"})
        self.assertLess(time.monotonic() - start, 120)

    def test_thousands_of_digits(self):
        source = random.Random(6)
        for ways in [(0,), (0, 12), (BIG,)]:
            yard = (ways, 5, ())
            standing = generic(yard, 2, 9)
            far = done(yard, standing, random_row(yard, source, 4, 10 ** 800))
            for group in groups_of(5):
                self.assertEqual(self.check(yard, far, group)[0], self.check(yard, standing, group)[0])
            self.assertEqual(greatest_crowd(yard, far), greatest_crowd(yard, standing))

    def test_rows_are_new(self):
        for group in [(0, 2), (0, 1)]:
            standing = ((0,), (0,), (2,), (1,))
            _, row, end = meeting(((0,), 4, ()), standing, group)
            again = list(row)
            row.append("mine")
            row.reverse()
            self.assertEqual(meeting(((0,), 4, ()), standing, group), ("led", again, end))

    def test_wrong_yards_and_standings(self):
        right, told = ((0,), (1,)), ("led", [], ((0,), (1,)))
        calls = [(greatest_crowd, ()), (meeting, ((0, 1),)), (meeting, (None,)), (meets, ((0, 1), told)), (meets, (None, None))]
        for call, more in calls:
            for thing in JUNK + [((5,), 2, (0,)), ((5,), 2, (1,)), ((0,), 2, (0,)), ((1,), 2, ()), ((5,), 7, ()), [(5,), 2, ()]]:
                self.assertIs(refusal_class(call, thing, right, *more), NoYard, thing)
                self.assertIs(refusal_class(call, thing, None, *more), NoYard, thing)
            for thing in JUNK + [[(0,), (1,)], ((0,),), ((0,), [1]), ((0,), (True,)), ((0,), (5,)), ((0,), (-1,))]:
                self.assertIs(refusal_class(call, RING, thing, *more), NoStanding, thing)

    def test_wrong_persons(self):
        yard, standing = ((0,), 4, ()), ((0,), (1,), (2,), (3,))

        def wrong(persons, person):
            for call, more in ((meeting, ()), (meets, (("led", [], standing),)), (meets, (None,))):
                error = refusal(call, yard, standing, persons, *more)
                self.assertIs(type(error), NoPerson, persons)
                self.assertIs(error.person, person)

        for thing in JUNK + [[0, 1], (0,), (), 3, "01", {0, 1}, range(2), (5,), (None,)]:
            if not isinstance(thing, tuple) or len(thing) < 2:
                wrong(thing, thing)
            else:
                wrong(thing, thing[0])
                wrong((0,) + thing, thing[0])
        for persons, at in [((0, 0), 1), ((1, 0), 1), ((0, 4), 1), ((-1, 0), 0), ((4, 5), 0), ((0, 2, 1), 2), ((0, 2, 2), 2),
                            ((0, 1, 2, 3, 4), 4), ((0, 1, 2, 3, 3), 4), ((True, 2), 0), ((0, True), 1), ((0, None, None), 1),
                            ((0, 1, "2"), 2), ((0, 1.0), 1), ((3, 2, 1), 1), ((0, (1,)), 1), ((0, [1], 9), 1)]:
            wrong(persons, persons[at])


class Meets(unittest.TestCase):

    def accept(self, yard, standing, group, paper):
        self.assertIs(meets(yard, standing, group, ("barred", paper)), True, (yard, standing, group, paper))

    def refuse(self, yard, standing, group, told):
        with Unchanged(self, yard, standing, group):
            self.assertIs(meets(yard, standing, group, told), False, (yard, standing, group, told))

    def refuse_barred(self, yard, standing, group, paper):
        self.refuse(yard, standing, group, ("barred", paper))

    def test_colour_papers(self):
        yard, standing = ((0,), 4, ()), ((0,), (3,), (6,), (9,))
        group = (0, 1, 2)
        for i, j in [(0, 1), (1, 0), (1, 2), (2, 1)]:
            for fraction in [(1, 6), (-1, 6), (5, 6), (1, 2)]:
                self.accept(yard, standing, group, ("colour", i, j, (fraction,)))
        # Of one colour, one and the same, not two of these persons, no persons.
        for i, j in [(0, 2), (2, 0), (1, 1), (0, 0), (0, 3), (3, 0), (2, 3), (0, 4), (-1, 0), (True, 0), (0, True), (None, 0),
                     (0, None), ("0", 1), (0.0, 1), ((0,), 1), ([0], 1), (0, -3), (4, 1)]:
            self.refuse_barred(yard, standing, group, ("colour", i, j, ((1, 6),)))
        # 0 of the difference; twice the reading is no integer; no fractions.
        for fraction in [(0, 1), (1, 3), (2, 3), (1, 1), (1, 12), (1, 5), (1, 4)] + NO_FRACTIONS:
            if fraction != (1, 2):
                self.refuse_barred(yard, standing, group, ("colour", 0, 1, (fraction,)))
        # Twice the reading is to be an integer for the persons who are not to meet, too.
        self.refuse_barred(yard, ((0,), (3,), (6,), (7,)), group, ("colour", 0, 1, ((1, 6),)))
        for paper in [("colour", 0, 1), ("colour", 0, ((1, 6),)), ("colour", 0, 1, ((1, 6),), 1), ["colour", 0, 1, ((1, 6),)],
                      ("colour", 0, 1, [(1, 6)]), ("colour", 0, 1, (1, 6)), ("colour", 0, 1, ((1, 6), ZERO)), ("colour",),
                      ("colours", 0, 1, ((1, 6),)), ("colour", ((1, 6),), 0, 1), ("few", 0, 1, ((1, 6),)), ("post", 0)]:
            self.refuse_barred(yard, standing, group, paper)

    def test_few_papers(self):
        yard, standing, group = ((0, 0), 4, ()), ((0, 0), (1, 0), (0, 1), (0, 0)), (0, 1, 3)
        first, second = ((1, 3), ZERO), (ZERO, (1, 3))
        self.accept(yard, standing, group, ("few", 3, (first, second)))
        self.accept(yard, standing, group, ("few", 3, (second, first)))
        self.accept(yard, standing, group, ("few", 2, (((1, 2), ZERO), (ZERO, (1, 2)))))
        # Count is below 2; all else holds of readings that are integers.
        self.refuse_barred(yard, standing, group, ("few", 1, (((1, 1), ZERO), (ZERO, (1, 1)))))
        for count in (0, -3, 2, 4, 6, 9, True, None, "3", 3.0, (3,), [3]):
            self.refuse_barred(yard, standing, group, ("few", count, (first, second)))
        # One reading more and one fewer, where all else holds; and the same for groups of other sizes.
        for readings in [(first,), (second,), ()]:
            self.refuse_barred(yard, standing, group, ("few", 3, readings))
        self.accept(yard, standing, (0, 1, 2, 3), ("few", 3, (first,)))
        self.refuse_barred(yard, standing, (0, 1, 2, 3), ("few", 3, (first, second)))
        self.refuse_barred(yard, standing, (0, 3), ("few", 3, (first, second)))
        self.refuse_barred(yard, standing, (0, 3), ("few", 3, (first, second, second)))
        # No integer, count times, of a person's difference; determinants with a common divisor with count.
        self.refuse_barred(yard, standing, group, ("few", 3, (first, (ZERO, (1, 9)))))
        self.refuse_barred(yard, standing, group, ("few", 3, (first, first)))
        self.refuse_barred(yard, ((0, 0), (1, 0), (0, 3), (0, 0)), group, ("few", 3, (first, second)))
        self.refuse_barred(yard, standing, group, ("few", 6, (((1, 3), ZERO), (ZERO, (1, 6)))))
        for paper in [("few", 3), ("few", (first, second)), ("few", 3, (first, second), ()), ["few", 3, (first, second)],
                      ("few", 3, [first, second]), ("few", 3, (first, list(second))), ("few", 3, (first, None)), ("few",),
                      ("few", (first, second), 3), ("fews", 3, (first, second)), ("turn", 3, (first, second)),
                      ("signs", 3, (first, second)), ("colour", 3, (first, second))]:
            self.refuse_barred(yard, standing, group, paper)
        for fraction in NO_FRACTIONS:
            self.refuse_barred(yard, standing, group, ("few", 3, (first, (ZERO, fraction))))
        # On a ring the fraction is to fit.
        self.accept(((9,), 2, ()), ((0,), (1,)), (0, 1), ("few", 9, (((1, 9),),)))
        self.refuse_barred(((9,), 2, ()), ((0,), (1,)), (0, 1), ("few", 2, (((1, 2),),)))

    def test_rows(self):
        yard, standing = LINE_OF_THREE, ((0,), (1,), (2,))
        row = [(((0, 1),), 1)]
        self.assertIs(meets(yard, standing, (0, 2), ("led", row, ((2,), (1,), (2,)))), True)
        for told in [("led", row, ((2,), (1,), (4,))), ("led", [], ((0,), (1,), (2,))), ("led", [], ((2,), (1,), (2,))),
                     ("led", row, [(2,), (1,), (2,)]), ("led", row, ((2,), (1,))), ("led", row, ((2,), (1,), [2])),
                     ("led", row), ("led", row, ((2,), (1,), (2,)), 1), ["led", row, ((2,), (1,), (2,))],
                     ("led", tuple(row), ((2,), (1,), (2,))), ("led", [(((0, 1),), 3)], ((2,), (1,), (2,))),
                     ("led", ((2,), (1,), (2,)), row), ("barred", row, ((2,), (1,), (2,))), ("led", row, None),
                     ("led", row, ((2,), (1,), (True,))), ("led", row + [None], ((2,), (1,), (2,)))]:
            self.refuse(yard, standing, (0, 2), told)
        # They lead there, but other persons meet.
        self.refuse(yard, standing, (0, 1), ("led", row, ((2,), (1,), (2,))))
        self.refuse(yard, standing, (0, 1, 2), ("led", row, ((2,), (1,), (2,))))

    def test_told_may_be_anything(self):
        for yard, standing, group in [(LINE_OF_THREE, ((0,), (1,), (2,)), (0, 2)), (LINE, ((0,), (1,)), (0, 1)),
                                      (RING, ((0,), (1,)), (0, 1))]:
            right = meeting(yard, standing, group)
            for told in JUNK + [[*right], right + (None,), right[:1], right[::-1], (right,), ("LED",) + right[1:],
                                (b"led",) + right[1:], (None,) + right[1:], (True,) + right[1:], ((right[0],),) + right[1:],
                                ("barred" if right[0] == "led" else "led",) + right[1:]]:
                self.refuse(yard, standing, group, told)
            for thing in JUNK:
                for told in [("barred", thing), ("led", thing), ("led", [], thing), ("led", thing, thing),
                             ("led", thing, standing), ("barred", thing, thing)]:
                    self.refuse(yard, standing, group, told)
                for name in ("colour", "few", "post", "span", "turn", "signs"):
                    for paper in [(name,), (name, thing), (name, thing, thing), (name, 2, thing), (name, 0, 1, thing),
                                  (name, thing, thing, ((1, 2),)), (name, 0, thing, ((1, 2),)), (name, thing, (((1, 2),),)),
                                  (name, 2, (thing,)), (name, 0, 1, (thing,))]:
                        if paper != ("colour", 0, 1, ((1, 2),)):
                            self.refuse_barred(yard, standing, group, paper)

    def test_what_meeting_tells_is_refused_when_changed(self):
        source = random.Random(1)
        for ways in GROUNDS:
            yard = (ways, 4, ())
            standing = generic(yard, source.random(), 4)
            for group in groups_of(4):
                told = meeting(yard, standing, group)
                if told[0] == "led":
                    _, row, end = told
                    moved = tuple((x + 1) % way if way else x + 1 for x, way in zip(end[0], ways))
                    for changed in [("led", tuple(row), end), ("led", row + [None], end), ("led", row, (moved,) + end[1:]),
                                    ("led", row, end[:-1]), ("led", row, list(end)), ("led", row), ("barred", row, end)]:
                        self.refuse(yard, standing, group, changed)
                else:
                    paper = told[1]
                    for changed in [paper[:-1], paper + (1,), list(paper), ("x",) + paper[1:], paper[:1] + (True,) + paper[2:],
                                    paper[:1] + (None,) + paper[2:], paper[:-1] + (list(paper[-1]),),
                                    paper[:-1] + (paper[-1][:-1],), paper[:-1] + (paper[-1] + paper[-1][:1],)]:
                        self.refuse_barred(yard, standing, group, changed)

    def test_changed_numbers_are_judged_anew(self):
        source = random.Random(4)
        for ways in GROUNDS:
            yard = (ways, 4, ())
            standing = generic(yard, source.random(), 4)
            for group in groups_of(4):
                told = meeting(yard, standing, group)
                for other in number_changes(told):
                    if told[0] == "led":
                        _, row, end = other
                        right = row_wrong(yard, row) is None and done(yard, standing, row) == end and together(end, group)
                    else:
                        right = readings_in(ways, other[1]) and bars_by_hand(yard, standing, group, other[1])
                    self.assertIs(meets(yard, standing, group, other), right, (yard, standing, group, other))

    def test_all_papers_on_small_rings(self):
        source = random.Random(2)
        barring = {"colour": 0, "few": 0}
        for ways, persons in [((4,), 2), ((5,), 2), ((6,), 2), ((4,), 3), ((6,), 3), ((3,), 3), ((2, 2), 3), ((3,), 4)]:
            yard = (ways, persons, ())
            numbers = classes_of(yard)
            readings = all_readings(ways)
            for standing in source.sample(list(numbers), 6):
                for group in groups_of(persons):
                    papers = [("colour", i, j, reading) for i in range(persons) for j in range(persons) for reading in readings]
                    papers += [("few", count, some) for count in (2, 3, 4, 6) for size in range(1, 4)
                               for some in itertools.product(readings[:4], repeat=size)]
                    possible = any(numbers[end] == numbers[standing] and together(end, group) for end in numbers)
                    for paper in papers:
                        found = meets(yard, standing, group, ("barred", paper))
                        self.assertIs(found, bars_by_hand(yard, standing, group, paper), (yard, standing, group, paper))
                        self.assertFalse(found and possible)
                        barring[paper[0]] += found
        self.assertTrue(min(barring.values()) > 50, barring)

    def test_papers_of_chance(self):
        source = random.Random(3)
        barring = {"colour": 0, "few": 0}
        for ways in GROUNDS:
            for persons in (2, 3, 4):
                yard = (ways, persons, ())
                for _ in range(60):
                    standing = generic(yard, source.random(), 2)
                    group = source.choice(groups_of(persons))
                    readings = tuple(random_reading(source, ways, 3) for _ in range(persons - len(group) + 1))
                    for paper in [("colour", *source.choices(range(persons), k=2), readings[0]),
                                  ("few", source.choice([2, 3, 6, 12]), readings)]:
                        found = bars_by_hand(yard, standing, group, paper)
                        self.assertIs(meets(yard, standing, group, ("barred", paper)), found)
                        barring[paper[0]] += found
        self.assertTrue(min(barring.values()) > 5, barring)


if __name__ == "__main__":
    unittest.main()
