"""Promises 3, 18 and 19: wishes, what grants them, and the papers that bar them."""

import itertools
import math
import random
import time
import unittest
from fractions import Fraction

from leapfolk.errors import NoStanding, NoWishes, NoYard
from leapfolk.makers import makers
from leapfolk.rows import back, done, row_wrong
from leapfolk.turns import kept
from leapfolk.verdicts import verdict
from leapfolk.wishes import granted, grants, wishes_wrong
from tests.samples import (
    BIG, JUNK, LINE, LINE_OF_THREE, POSTED, RING, YARDS, Unchanged, classes_of, determinant_by_hand, digits_of,
    floor_by_hand, generic, is_plain, minus, random_row, refusal_class, standings_of,
)
from tests.test_homes import GROUNDS, LONG_GROUNDS, close_numbers
from tests.test_readings import NO_FRACTIONS, random_reading, read_by_hand

ZERO = (0, 1)

# Makers that are 0, odd, even and 2; more movers than makers and as many.
RINGS = [
    ((2,), 2, ()), ((5,), 2, ()), ((12,), 2, ()), ((4,), 3, ()), ((6,), 3, ()), ((9,), 3, ()), ((5, 5), 2, ()),
    ((3, 3), 3, ()), ((2, 4), 3, ()), ((3, 6), 2, ()), ((2, 2), 3, ()), ((2, 2, 2), 3, ()), ((4,), 4, ()),
    ((3,), 5, ()), ((2,), 6, ()), ((7,), 2, (0,)), ((7,), 2, (1,)), ((8,), 3, (1,)), ((9,), 3, (0, 2)),
    ((3, 3), 3, (2,)), ((4, 2), 3, (0,)), ((5,), 4, (1, 3)), ((2, 3), 3, (0, 1)), ((6,), 4, (2,)), ((4, 4), 3, ()),
]


def grants_by_hand(wishes, standing):
    """Return whether each person with a wished point stands there."""
    return all(wish is None or wish == point for wish, point in zip(wishes, standing))


def aim_by_hand(yard, standing, wishes):
    """Return (wishes of bound movers, all movers' differences, number of free movers), or None without a base."""
    _, persons, posts = yard
    wished = [k for k in range(persons) if wishes[k] is not None]
    if not posts and not wished:
        return None
    base = posts[0] if posts else wished[0]
    start = standing[base] if posts else wishes[base]
    movers = [k for k in range(persons) if k not in posts and k != base]
    wanted = [minus(wishes[k], start) for k in movers if k in wished]
    return wanted, [minus(standing[k], standing[base]) for k in movers], len(movers) - len(wanted)


def product_by_hand(slope, vector):
    """Return the exact sum of products."""
    return sum((Fraction(*fraction) * number for fraction, number in zip(slope, vector)), Fraction(0))


def table_by_hand(count, readings, vectors):
    """Return count times the readings of the vectors."""
    return [[count * Fraction(*read_by_hand(reading, v)) for v in vectors] for reading in readings]


def whole(table):
    """Return whether all numbers of the table are integers."""
    return all(number.denominator == 1 for row in table for number in row)


def minors_by_hand(table, columns, count):
    """Return the greatest common divisor of count and all determinants of as many columns as the table has rows."""
    found = count
    for some in itertools.combinations(range(columns), len(table)):
        found = math.gcd(found, int(determinant_by_hand([[row[c] for c in some] for row in table])))
    return found


def bars_by_hand(yard, standing, wishes, paper):
    """Return whether a paper with parts of the right kinds bars, word by word as the document has it."""
    aim = aim_by_hand(yard, standing, wishes)
    if aim is None:
        return False
    wanted, vectors, free = aim
    floor = floor_by_hand(yard, standing)
    word = paper[0]
    if word == "post":
        return wishes[paper[1]] is not None and wishes[paper[1]] != standing[paper[1]]
    if word == "colour":
        _, person, reading = paper
        halves = all(read_by_hand(reading, minus(a, b)) in (ZERO, (1, 2)) for a in standing for b in standing)
        return wishes[person] is not None and halves and (
            read_by_hand(reading, minus(wishes[person], standing[person])) != ZERO)
    if word == "few":
        _, count, readings = paper
        table = table_by_hand(count, readings, vectors)
        zero = all(read_by_hand(reading, v) == ZERO for reading in readings for v in floor + wanted)
        return len(readings) == free + 1 and zero and whole(table) and minors_by_hand(table, len(vectors), count) == 1
    _, count, readings, slopes = paper
    if len(slopes) != free or len(readings) != len(wanted):
        return False
    if any(way and fraction != ZERO for slope in slopes for way, fraction in zip(yard[0], slope)):
        return False
    posts = [minus(standing[post], standing[yard[2][0]]) for post in yard[2]]
    if any(product_by_hand(slope, v) != 0 for slope in slopes for v in posts + wanted):
        return False
    products = [[product_by_hand(slope, v) for v in vectors] for slope in slopes]
    here, there = table_by_hand(count, readings, vectors), table_by_hand(count, readings, wanted)
    if not (whole(products) and whole(here) and whole(there)) or minors_by_hand(products, len(vectors), 0) != 1:
        return False
    if any(read_by_hand(reading, v) != ZERO for reading in readings for v in floor):
        return False
    first, then = determinant_by_hand(products + here), determinant_by_hand(there)
    return (first - then) % count != 0 and (first + then) % count != 0


def some_wishes(yard, source, standing, after, bound):
    """Return wishes of some persons: of a standing that a row leads to, and such that differ from it a little."""
    ways, persons, posts = yard
    many = source.choice([0, 1, persons - 1, persons, source.randrange(persons + 1)])
    some = source.sample(range(persons), many)
    wishes = [after[k] if k in some else None for k in range(persons)]
    found = [tuple(wishes)]

    def put(k, vector, times):
        changed = list(wishes)
        changed[k] = tuple((x + times * y) % way if way else x + times * y
                           for x, y, way in zip(wishes[k], vector, ways))
        found.append(tuple(changed))

    walkers = [k for k in some if k not in posts]
    if walkers:
        for times in (2, -2, 4, 6, 1):
            # The colour stays, but for the last one.
            put(source.choice(walkers), minus(standing[source.randrange(persons)], standing[0]), times)
        first = after[some[0]]
        for times in (3, -1, 5):
            # All differences of the wished points times the same number.
            found.append(tuple(
                wish if wish is None or k in posts else
                tuple((b + times * (x - b)) % way if way else b + times * (x - b) for x, b, way in zip(wish, first, ways))
                for k, wish in enumerate(wishes)))
    if some:
        k = source.choice(some)
        found.append(tuple(generic(yard, source.random(), bound)[k] if n == k else wish for n, wish in enumerate(wishes)))
    return found


class WishesWrong(unittest.TestCase):

    def test_wishes(self):
        for yard in YARDS:
            points = generic(yard, 3, BIG)
            for k in range(yard[1] + 1):
                self.assertIsNone(wishes_wrong(yard, points[:k] + (None,) * (yard[1] - k)))
                self.assertIsNone(wishes_wrong(yard, (None,) * (yard[1] - k) + points[yard[1] - k:]))
        self.assertIsNone(wishes_wrong(RING, ((0,), (4,))))

    def test_what_is_no_tuple_of_one_item_per_person(self):
        for thing in JUNK:
            if not (isinstance(thing, tuple) and len(thing) == 2):
                self.assertEqual(wishes_wrong(LINE, thing), ("wishes",), thing)
        for thing in [(None,), (None,) * 3, [None, None], ((0,),) * 3, ((0,),), [(0,), (1,)], {0: None, 1: None}, ()]:
            self.assertEqual(wishes_wrong(LINE, thing), ("wishes",), thing)

    def test_points(self):
        for thing in JUNK:
            if thing is not None:
                self.assertEqual(wishes_wrong(LINE, (thing, None)), ("point", 0), thing)
                self.assertEqual(wishes_wrong(LINE, (None, thing)), ("point", 1), thing)
                self.assertEqual(wishes_wrong(LINE, (thing, thing)), ("point", 0), thing)
        for point in [(5,), (-1,), (0, 0), (), [0], (True,), (None,), (0.0,), ("0",), 0]:
            self.assertEqual(wishes_wrong(RING, (None, point)), ("point", 1), point)
            self.assertEqual(wishes_wrong(RING, ((4,), point)), ("point", 1), point)
        self.assertEqual(wishes_wrong(POSTED, (None, (0, 3), (0, 4), None)), ("point", 2))

    def test_wrong_yards(self):
        for thing in JUNK:
            self.assertIs(refusal_class(wishes_wrong, thing, (None, None)), NoYard, thing)
            self.assertIs(refusal_class(wishes_wrong, thing, thing), NoYard, thing)


class Granted(unittest.TestCase):

    def check(self, yard, standing, wishes):
        with Unchanged(self, yard, standing, wishes):
            told = granted(yard, standing, wishes)
        self.assertIs(type(told), tuple)
        self.assertTrue(is_plain(told))
        digits = max(digits_of(yard), digits_of(standing), digits_of(wishes))
        if told[0] == "led":
            word, row, end = told
            self.assertIs(type(row), list)
            self.assertIs(type(end), tuple)
            self.assertIsNone(row_wrong(yard, row))
            self.assertEqual(done(yard, standing, row), end)
            self.assertTrue(grants_by_hand(wishes, end), (yard, standing, wishes, end))
            self.assertLessEqual(len(row), 5000 * digits)
        else:
            word, paper = told
            self.assertEqual(word, "barred")
            self.assertIs(type(paper), tuple)
            self.assertTrue(bars_by_hand(yard, standing, wishes, paper), (yard, standing, wishes, paper))
        if digits <= 60:
            self.assertLessEqual(digits_of(told), 4000)
        self.assertIs(grants(yard, standing, wishes, told), True)
        return told

    def test_ordinary_answers(self):
        self.assertEqual(self.check(LINE, ((0,), (1,)), ((2,), None))[0], "led")
        self.assertEqual(self.check(LINE, ((0,), (1,)), ((1,), None))[0], "barred")
        self.assertEqual(self.check(LINE, ((0,), (1,)), (None, (1,)))[0], "led")
        self.assertEqual(self.check(LINE, ((0,), (1,)), ((0,), (3,)))[1][0], "few")
        self.assertEqual(self.check(LINE_OF_THREE, ((0,), (1,), (0,)), ((0,), (3,), None))[0], "led")
        self.assertEqual(self.check(LINE_OF_THREE, ((0,), (1,), (0,)), ((0,), (3,), (0,)))[1][0], "few")
        self.assertEqual(self.check(((0,), 2, (0,)), ((0,), (1,)), ((2,), None))[1], ("post", 0))
        self.assertEqual(self.check(((0,), 2, (0,)), ((0,), (1,)), ((0,), (-1,)))[0], "led")
        self.assertEqual(self.check(((7,), 2, ()), ((0,), (1,)), ((0,), (2,)))[1][0], "turn")
        self.assertEqual(self.check(((0, 5), 3, ()), ((0, 0), (0, 1), (1, 0)), ((0, 0), (0, 3), None))[1][0], "turn")
        self.assertEqual(self.check(((0, 5), 3, ()), ((0, 0), (0, 1), (1, 0)), ((0, 0), (0, 4), None))[0], "led")

    def test_all_standings_that_leaps_lead_to(self):
        source = random.Random(1)
        words = {}
        for yard in RINGS:
            numbers = classes_of(yard)
            standings, members = list(numbers), {}
            for standing, number in numbers.items():
                members.setdefault(number, []).append(standing)
            for _ in range(40):
                standing = source.choice(standings)
                reached = members[numbers[standing]]
                for wishes in some_wishes(yard, source, standing, source.choice(reached), 9):
                    told = self.check(yard, standing, wishes)
                    possible = any(grants_by_hand(wishes, end) for end in reached)
                    self.assertEqual(told[0], "led" if possible else "barred", (yard, standing, wishes))
                    if told[0] == "led":
                        self.assertEqual(numbers[told[2]], numbers[standing])
                    words.setdefault(told[0] if told[0] == "led" else told[1][0], []).append(yard)
        self.assertEqual(sorted(words), ["colour", "few", "led", "post", "turn"])

    def test_all_wishes_of_a_few_standings(self):
        source = random.Random(2)
        for yard in [((2,), 3, ()), ((3,), 3, ()), ((4,), 3, ()), ((6,), 2, ()), ((5,), 2, (1,)), ((4,), 3, (1,)),
                     ((3,), 4, ()), ((2, 2), 2, ()), ((6,), 2, (0,)), ((3,), 3, (0, 2))]:
            numbers = classes_of(yard)
            points = list(itertools.product(*[range(way) for way in yard[0]]))
            for standing in source.sample(list(numbers), 4):
                reached = [end for end, number in numbers.items() if number == numbers[standing]]
                for wishes in itertools.product([None] + points, repeat=yard[1]):
                    told = self.check(yard, standing, wishes)
                    possible = any(grants_by_hand(wishes, end) for end in reached)
                    self.assertEqual(told[0], "led" if possible else "barred", (yard, standing, wishes))

    def test_grounds_of_all_kinds(self):
        source = random.Random(3)
        seen, sizes = set(), set()
        for ways in GROUNDS:
            for persons in range(2, 7):
                for many in {0, 1, source.randrange(persons), persons - 1}:
                    yard = (ways, persons, tuple(sorted(source.sample(range(persons), many))))
                    for make in (lambda: generic(yard, source.random(), source.choice([1, 2, 9])),
                                 lambda: close_numbers(yard, source, 9)):
                        standing = make()
                        after = done(yard, standing, random_row(yard, source, 3, 5))
                        for n, wishes in enumerate(some_wishes(yard, source, standing, after, 9)):
                            told = self.check(yard, standing, wishes)
                            seen.add(told[0] if told[0] == "led" else told[1][0])
                            aim = aim_by_hand(yard, standing, wishes)
                            if aim is not None:
                                gap = aim[2] - len(makers(yard, standing))
                                sizes.add((gap > 0) - (gap < 0))
                            if n == 0:
                                self.assertEqual(told[0], "led")
        self.assertEqual(seen, {"led", "post", "colour", "few", "turn"})
        self.assertEqual(sizes, {-1, 0, 1})

    def test_turns_of_lines_and_rings_together(self):
        source = random.Random(4)
        seen = {"led": 0, "turn": 0}
        for yard, standing in [
            (((0, 9), 3, ()), ((4, 4), (4, 5), (5, 2))),
            (((8, 0), 3, ()), ((1, 4), (2, 4), (2, 7))),
            (((0, 0, 7), 4, ()), ((0, 0, 0), (1, 0, 3), (0, 1, 0), (5, 5, 2))),
            (((0, 5, 10), 4, ()), ((0, 0, 0), (1, 0, 0), (0, 1, 0), (0, 0, 1))),
            (((0, 0), 4, (0, 1)), ((0, 0), (0, 9), (1, 0), (4, 1))),
            (((0, 0), 4, (1, 3)), ((1, 0), (0, 0), (4, 1), (0, 13))),
            (((0, 12), 3, (2,)), ((0, 1), (1, 0), (0, 0))),
            # The span has fewer reduced rows than there are ways, or what is finite lies across the ways.
            (((0, 0, 5), 3, ()), ((0, 0, 0), (0, 0, 1), (1, 2, 0))),
            (((0, 0), 4, (0, 1)), ((0, 0), (5, 5), (1, 1), (1, 0))),
            (((0, 0), 4, (0, 1)), ((0, 0), (10, 5), (2, 1), (1, 0))),
            (((0, 0, 0), 5, (1, 4)), ((1, 2, 3), (0, 0, 0), (1, 1, 4), (1, 2, 4), (7, 14, 21))),
        ]:
            self.assertEqual(len(makers(yard, standing)), len(aim_by_hand(yard, standing, standing)[1]))
            for _ in range(30):
                # Points that a row leads to if the others are let go, all in the finite part: times a number.
                after = done(yard, standing, random_row(yard, source, 4, 5))
                base = after[yard[2][0] if yard[2] else 0]
                some = source.sample(range(yard[1]), source.randint(1, yard[1] - 1))
                times = source.choice([1, 3, 5, 7])
                wishes = tuple(
                    None if k not in some else point if k in yard[2] else
                    tuple((b + times * (x - b)) % way if way else x for x, b, way in zip(point, base, yard[0]))
                    for k, point in enumerate(after))
                told = self.check(yard, standing, wishes)
                word = told[0] if told[0] == "led" else told[1][0]
                if word in seen:
                    seen[word] += 1
            movers = [k for k in range(yard[1]) if k not in yard[2]]
            for times in range(-5, 6):
                for k in movers:
                    base = standing[yard[2][0] if yard[2] else movers[0]]
                    wishes = [None] * yard[1]
                    wishes[movers[0]] = standing[movers[0]]
                    wishes[k] = tuple((b + times * (x - b)) % way if way else b + times * (x - b)
                                      for x, b, way in zip(standing[k], base, yard[0]))
                    told = self.check(yard, standing, tuple(wishes))
                    word = told[0] if told[0] == "led" else told[1][0]
                    if word in seen:
                        seen[word] += 1
        self.assertTrue(min(seen.values()) > 20, seen)

    def test_wishes_of_nobody(self):
        for yard in YARDS:
            standing = generic(yard, 2, BIG)
            self.assertEqual(self.check(yard, standing, (None,) * yard[1])[0], "led")

    def test_what_stands_there_already(self):
        source = random.Random(5)
        for yard in YARDS:
            standing = generic(yard, 4, BIG)
            for _ in range(8):
                wishes = tuple(point if source.randrange(2) else None for point in standing)
                self.assertEqual(self.check(yard, standing, wishes)[0], "led")

    def test_wishes_of_one_person(self):
        # One person alone reaches all points of its colour, as soon as nothing else is asked.
        for yard in [LINE, LINE_OF_THREE, ((0, 0), 3, ()), ((0, 6), 4, ()), ((8,), 2, ()), ((9, 0), 5, ())]:
            standing = generic(yard, 5, 9)
            for k in range(yard[1]):
                for i in range(yard[1]):
                    for j in range(yard[1]):
                        point = tuple((x + 2 * (y - z)) % way if way else x + 2 * (y - z) for x, y, z, way in zip(
                            standing[k], standing[i], standing[j], yard[0]))
                        wishes = tuple(point if n == k else None for n in range(yard[1]))
                        self.assertEqual(self.check(yard, standing, wishes)[0], "led")

    def test_all_persons_wished_is_the_verdict(self):
        source = random.Random(6)
        for yard in RINGS + YARDS + [(ways, 4, posts) for ways in GROUNDS for posts in [(), (1,), (0, 3)]]:
            for _ in range(6):
                standing = generic(yard, source.random(), 3)
                after = done(yard, standing, random_row(yard, source, 3, 4))
                for wishes in some_wishes(yard, source, standing, after, 3):
                    full = tuple(point if wish is None else wish for wish, point in zip(wishes, after))
                    told = self.check(yard, standing, full)
                    self.assertEqual(told[0], verdict(yard, standing, full)[0])
                    if told[0] == "led":
                        self.assertEqual(told[2], full)

    def test_ends_keep_what_rows_keep(self):
        source = random.Random(7)
        for ways in GROUNDS:
            yard = (ways, 5, ())
            standing = generic(yard, source.random(), 9)
            after = done(yard, standing, random_row(yard, source, 3, 5))
            for wishes in some_wishes(yard, source, standing, after, 9):
                told = self.check(yard, standing, wishes)
                if told[0] == "led":
                    self.assertTrue(kept(yard, standing) == kept(yard, told[2]))
                    self.assertEqual(done(yard, told[2], back(told[1])), standing)

    def test_the_same_from_wherever_rows_lead(self):
        source = random.Random(8)
        for ways in GROUNDS:
            for posts in [(), (2,), (0, 1)]:
                yard = (ways, 4, posts)
                standing = generic(yard, source.random(), 3)
                after = done(yard, standing, random_row(yard, source, 3, 5))
                for wishes in some_wishes(yard, source, standing, after, 4):
                    told = self.check(yard, standing, wishes)
                    self.assertEqual(self.check(yard, after, wishes)[0], told[0])
                    if told[0] == "barred":
                        self.assertIs(grants(yard, after, wishes, told), True)

    def test_sixty_digits(self):
        source = random.Random(9)
        start = time.monotonic()
        seen = set()
        for ways in LONG_GROUNDS:
            for persons, posts in [(2, ()), (3, ()), (4, (2,)), (5, (1, 3)), (6, ()), (6, (0, 2, 3)), (6, (0, 1, 2, 4))]:
                yard = (ways, persons, posts)
                for make in (lambda: generic(yard, source.random(), 10 ** 30),
                             lambda: close_numbers(yard, source, 10 ** 30)):
                    standing = make()
                    after = done(yard, standing, random_row(yard, source, 2, 10 ** 14))
                    for n, wishes in enumerate(some_wishes(yard, source, standing, after, 10 ** 40)):
                        told = self.check(yard, standing, wishes)
                        seen.add(told[0] if told[0] == "led" else told[1][0])
                        if n == 0:
                            self.assertEqual(told[0], "led")
                self.check(yard, generic(yard, source.random(), BIG), generic(yard, source.random(), BIG))
        self.assertEqual(seen, {"led", "post", "colour", "few", "turn"})
        self.assertLess(time.monotonic() - start, 120)

    def test_far_wishes_from_near_standings(self):
        source = random.Random(10)
        for ways in [(0,), (0, 0), (0, 0, 0), (BIG, 0, 0), (2 ** 199, 0, 2 ** 150), (2 ** 199, 2 ** 198, 2 ** 190)]:
            for persons in range(2, 7):
                for posts in [(), (persons - 1,)]:
                    yard = (ways, persons, posts)
                    standing = generic(yard, source.random(), source.choice([1, 3]))
                    wishes = [None] * persons
                    for k in source.sample([k for k in range(persons) if k not in posts], max(1, (persons - 1) // 2)):
                        vectors = [minus(point, standing[0]) for point in standing]
                        wishes[k] = tuple(
                            (x + sum(2 * source.randint(-BIG // 100, BIG // 100) * v[n] for v in vectors)) % way if way
                            else x + sum(2 * source.randint(-BIG // 100, BIG // 100) * v[n] for v in vectors)
                            for n, (x, way) in enumerate(zip(standing[k], ways)))
                    self.check(yard, standing, tuple(wishes))

    def test_thousands_of_digits(self):
        source = random.Random(11)
        for yard in [((0,), 3, ()), ((0, 0), 4, (1,)), ((0, 12), 5, (0, 2)), ((BIG, 0), 3, ())]:
            standing = generic(yard, 2, BIG)
            far = done(yard, standing, random_row(yard, source, 4, 10 ** 600))
            for many in range(1, yard[1] + 1):
                told = self.check(yard, standing, far[:many] + (None,) * (yard[1] - many))
                self.assertEqual(told[0], "led")
                self.assertEqual(self.check(yard, far, standing[:many] + (None,) * (yard[1] - many))[0], "led")

    def test_returned_rows_are_new(self):
        for yard in YARDS:
            standing = generic(yard, 1, 9)
            after = done(yard, standing, random_row(yard, random.Random(1), 2, 3))
            for wishes in [(None,) * yard[1], after, after[:1] + (None,) * (yard[1] - 1)]:
                _, row, end = granted(yard, standing, wishes)
                again = list(row)
                row.append("mine")
                row.reverse()
                self.assertEqual(granted(yard, standing, wishes), ("led", again, end))

    def test_wrong_arguments(self):
        right, none = ((0,), (1,)), (None, None)
        for thing in JUNK + [[(0,), (1,)], ((0,),), ((0,), [1]), ((0,), (True,)), ((0,), (5,)), ((0,), (-1,)),
                             [None, None], (None,), (None, None, None), (None, (5,)), (None, [0]), (False, None)]:
            for call, more in ((granted, ()), (grants, (("led", [], right),)), (grants, (None,)), (grants, (thing,))):
                self.assertIs(refusal_class(call, thing, right, none, *more), NoYard, thing)
                self.assertIs(refusal_class(call, thing, thing, thing, *more), NoYard, thing)
                self.assertIs(refusal_class(call, thing, None, None, *more), NoYard, thing)
                self.assertIs(refusal_class(call, RING, thing, none, *more), NoStanding, thing)
                self.assertIs(refusal_class(call, RING, thing, thing, *more), NoStanding, thing)
                if thing != (None, None):
                    self.assertIs(refusal_class(call, RING, right, thing, *more), NoWishes, thing)


class Grants(unittest.TestCase):

    def accept(self, yard, standing, wishes, paper):
        with Unchanged(self, yard, standing, wishes, paper):
            self.assertIs(grants(yard, standing, wishes, ("barred", paper)), True, (yard, standing, wishes, paper))

    def refuse(self, yard, standing, wishes, told):
        with Unchanged(self, yard, standing, wishes):
            self.assertIs(grants(yard, standing, wishes, told), False, (yard, standing, wishes, told))

    def refuse_barred(self, yard, standing, wishes, paper):
        self.refuse(yard, standing, wishes, ("barred", paper))

    def test_post_papers(self):
        yard, standing = ((0, 6), 4, (1, 3)), ((0, 0), (1, 1), (2, 2), (3, 3))
        wishes = ((5, 5), (1, 1), None, (3, 4))
        self.accept(yard, standing, wishes, ("post", 3))
        # Post 1 is wished where it stands, person 0 is no post, and neither of 2 and 4 is a post with a wish.
        for k in (0, 1, 2, 4, -1, True, None, "3", (3,), 3.0, [3]):
            self.refuse_barred(yard, standing, wishes, ("post", k))
        self.refuse_barred(yard, standing, (None,) * 4, ("post", 3))
        self.refuse_barred(yard, standing, ((5, 5), (1, 1), None, (3, 3)), ("post", 3))
        for paper in [("post",), ("post", 3, 3), ["post", 3], "post", ("posts", 3), (b"post", 3), (3,), (None, 3)]:
            self.refuse_barred(yard, standing, wishes, paper)

    def test_colour_papers(self):
        standing, wishes = ((0,), (3,), (0,)), (None, (1,), None)
        yard = LINE_OF_THREE
        for fraction in [(1, 6), (-1, 6), (5, 6), (7, 6), (1, 3)]:
            self.accept(yard, standing, wishes, ("colour", 1, (fraction,)))
        # 0 of the difference; twice the reading is no integer of the persons' differences; no fractions.
        for fraction in [(0, 1), (1, 2), (1, 1), (1, 12), (1, 4), (1, 5)] + NO_FRACTIONS:
            self.refuse_barred(yard, standing, wishes, ("colour", 1, (fraction,)))
        for person in (0, 2, 3, -1, -2, True, None, "1", 1.0, (1,), [1]):
            self.refuse_barred(yard, standing, wishes, ("colour", person, ((1, 6),)))
        for paper in [("colour", 1), ("colour", ((1, 6),)), ("colour", 1, ((1, 6),), 1), ["colour", 1, ((1, 6),)],
                      ("colour", 1, [(1, 6)]), ("colour", 1, (1, 6)), ("colour", 1, ((1, 6), (0, 1))), ("colour",)]:
            self.refuse_barred(yard, standing, wishes, paper)
        # A person for whom nothing is wished, and one who is wished where it stands.
        self.refuse_barred(yard, standing, ((0,), None, None), ("colour", 1, ((1, 6),)))
        self.refuse_barred(yard, standing, (None, (3,), None), ("colour", 1, ((1, 6),)))
        # A post may be the person.
        self.accept(((0,), 2, (0,)), ((0,), (2,)), ((1,), None), ("colour", 0, ((1, 4),)))
        self.refuse_barred(((0,), 2, (0,)), ((0,), (1,)), ((1,), None), ("colour", 0, ((1, 4),)))

    def test_few_papers(self):
        # One free mover, and two makers that are 0 modulo the wish.
        yard, standing = ((0, 0), 4, ()), ((0, 0), (1, 0), (0, 1), (0, 0))
        wishes = ((0, 0), (3, 0), None, (0, 0))
        first, second = ((1, 3), ZERO), (ZERO, (1, 3))
        self.accept(yard, standing, wishes, ("few", 3, (first, second)))
        self.accept(yard, standing, wishes, ("few", 3, (second, first)))
        # Count is below 2; all else holds of readings that are integers.
        self.refuse_barred(yard, standing, wishes, ("few", 1, (((1, 1), ZERO), (ZERO, (1, 1)))))
        for count in (0, -3, 2, 4, 9, True, None, "3", 3.0, (3,), [3]):
            self.refuse_barred(yard, standing, wishes, ("few", count, (first, second)))
        # One reading more and one fewer, where all else holds.
        self.refuse_barred(yard, standing, wishes, ("few", 3, (second,)))
        self.refuse_barred(yard, standing, wishes, ("few", 3, (first,)))
        self.refuse_barred(yard, standing, wishes, ("few", 3, ()))
        self.refuse_barred(yard, standing, wishes, ("few", 3, (first, second, second)))
        wide = ((0, 0, 0), 4, ())
        at = ((0, 0, 0), (1, 0, 0), (0, 1, 0), (0, 0, 1))
        away = ((0, 0, 0), (3, 0, 0), (0, 3, 0), None)
        three = [(ZERO,) * k + ((1, 3),) + (ZERO,) * (2 - k) for k in range(3)]
        self.accept(wide, at, away, ("few", 3, tuple(three[:2])))
        self.refuse_barred(wide, at, away, ("few", 3, tuple(three)))
        self.refuse_barred(wide, at, away, ("few", 3, tuple(three[:1])))
        # Not 0 of a wish.
        self.refuse_barred(yard, standing, ((0, 0), (4, 0), None, (0, 0)), ("few", 3, (first, second)))
        self.refuse_barred(yard, standing, ((0, 0), (3, 0), None, (0, 1)), ("few", 3, (first, second)))
        # The wish is counted from the wished base.
        self.accept(yard, standing, ((2, 2), (5, 2), None, (2, 2)), ("few", 3, (first, second)))
        self.refuse_barred(yard, standing, ((2, 2), (3, 0), None, (0, 0)), ("few", 3, (first, second)))
        # Count times a reading is no integer for a mover.
        self.refuse_barred(yard, ((0, 0), (1, 0), (0, 1), (1, 1)), wishes, ("few", 3, (first, (ZERO, (1, 9)))))
        # The determinants have a common divisor with count.
        self.refuse_barred(yard, standing, wishes, ("few", 3, (first, first)))
        self.refuse_barred(yard, ((0, 0), (1, 0), (0, 3), (0, 0)), wishes, ("few", 3, (first, second)))
        for count in (6, 9):
            self.refuse_barred(yard, standing, wishes, ("few", count, (first, second)))
        self.refuse_barred(yard, standing, wishes, ("few", 6, (((1, 3), ZERO), (ZERO, (1, 6)))))

    def test_few_papers_and_the_floor(self):
        yard, standing = ((0,), 3, (0, 1)), ((0,), (5,), (1,))
        self.accept(yard, standing, (None, None, (15,)), ("few", 5, (((1, 5),),)))
        # Not 0 of the floor, which is made by 10.
        self.refuse_barred(yard, standing, (None, None, (15,)), ("few", 3, (((1, 3),),)))
        ring = ((9,), 2, ())
        self.accept(ring, ((0,), (1,)), ((0,), (3,)), ("few", 3, (((1, 3),),)))
        self.accept(ring, ((0,), (1,)), ((4,), (4,)), ("few", 9, (((1, 9),),)))
        self.refuse_barred(ring, ((0,), (1,)), ((0,), (3,)), ("few", 3, (((1, 2),),)))
        self.refuse_barred(ring, ((0,), (1,)), ((0,), (3,)), ("few", 9, (((1, 9),),)))
        # Fewer movers than readings: for nobody anything is wished.
        self.refuse_barred(((0,), 2, (0,)), ((0,), (1,)), (None, None), ("few", 3, (((1, 3),), ((1, 3),))))
        self.refuse_barred(((0,), 2, (0,)), ((0,), (1,)), (None, None), ("few", 3, (((0, 1),), ((0, 1),))))
        self.refuse_barred(LINE, ((0,), (1,)), ((0,), None), ("few", 3, (((0, 1),), ((0, 1),))))

    def test_turn_papers(self):
        yard, standing = ((0, 5), 3, ()), ((0, 0), (0, 1), (1, 0))
        wishes = ((0, 0), (0, 3), None)
        reading, slope = (ZERO, (1, 5)), ((1, 1), ZERO)
        self.accept(yard, standing, wishes, ("turn", 5, (reading,), (slope,)))
        self.accept(yard, standing, wishes, ("turn", 5, ((ZERO, (4, 5)),), (((-1, 1), ZERO),)))
        self.accept(yard, standing, ((2, 2), (2, 0), None), ("turn", 5, (reading,), (slope,)))
        # The determinants are equal, or equal but for the sign.
        for there in (1, 4):
            self.refuse_barred(yard, standing, ((0, 0), (0, there), None), ("turn", 5, (reading,), (slope,)))
        for count in (1, 0, -5, 2, 3, True, None, "5", 5.0, (5,), [5]):
            self.refuse_barred(yard, standing, wishes, ("turn", count, (reading,), (slope,)))
        # One reading more and one fewer, one slope more and one fewer, none at all.
        for readings, slopes in [((), (slope,)), ((reading,) * 2, (slope,)), ((reading,), ()), ((reading,), (slope,) * 2),
                                 ((), ()), ((reading,) * 2, ()), ((), (slope,) * 2)]:
            self.refuse_barred(yard, standing, wishes, ("turn", 5, readings, slopes))
        # Slopes that are not of the kind.
        for broken in [((1, 1),), ((1, 1), ZERO, ZERO), ((1, 1), (0, 2)), ((2, 2), ZERO), [(1, 1), ZERO], ((1, 1), [0, 1]),
                       ((1, 1), 0), (1, ZERO), ((1, -1), ZERO), ((True, 1), ZERO), None, 1, "ab", (), ((1.0, 1), ZERO)]:
            self.refuse_barred(yard, standing, wishes, ("turn", 5, (reading,), (broken,)))
        # A slope that is no integer for a mover; slopes whose determinants have a common divisor, or are all 0.
        self.refuse_barred(yard, standing, wishes, ("turn", 5, (reading,), (((1, 2), ZERO),)))
        self.refuse_barred(yard, standing, ((0, 0), (0, 1), None), ("turn", 5, (reading,), (((2, 1), ZERO),)))
        self.refuse_barred(yard, standing, wishes, ("turn", 5, (reading,), ((ZERO, ZERO),)))
        # The slope is not 0 of the wish.
        self.refuse_barred(yard, standing, ((0, 0), (1, 3), None), ("turn", 5, (reading,), (slope,)))
        self.refuse_barred(yard, ((0, 0), (0, 1), (2, 0)), ((0, 0), (1, 3), None), ("turn", 5, (reading,), (((1, 2), ZERO),)))
        self.accept(yard, ((0, 0), (0, 1), (2, 0)), ((0, 0), (0, 3), None), ("turn", 5, (reading,), (((1, 2), ZERO),)))
        # Count times the reading is no integer for a mover, though it is for the wish.
        self.refuse_barred(yard, standing, wishes, ("turn", 5, (((1, 3), (1, 5)),), (slope,)))
        for thing in [("turn", 5, (reading,)), ("turn", 5, (reading,), (slope,), ()), ["turn", 5, (reading,), (slope,)],
                      ("turn", 5, [reading], (slope,)), ("turn", 5, (reading,), [slope]), ("turn", (reading,), 5, (slope,)),
                      ("turn", 5, reading, (slope,)), ("turn", 5, (reading,), slope), ("turn", 5, (slope,), (reading,)),
                      ("turns", 5, (reading,), (slope,)), ("signs", 5, (reading,), (slope,)), ("turn",)]:
            self.refuse_barred(yard, standing, wishes, thing)

    def test_turn_papers_with_slopes_on_ring_ways(self):
        yard, standing, wishes = ((0, 5), 3, ()), ((0, 0), (0, 1), (1, 0)), ((0, 0), (0, 0), None)
        reading = (ZERO, (1, 5))
        self.accept(yard, standing, wishes, ("turn", 5, (reading,), (((1, 1), ZERO),)))
        # It is an integer for both movers and 0 of the wish, but it is not 0 on the ring.
        self.refuse_barred(yard, standing, wishes, ("turn", 5, (reading,), (((1, 1), (1, 1)),)))
        self.refuse_barred(yard, standing, wishes, ("turn", 5, (reading,), (((1, 1), (5, 1)),)))

    def test_turn_papers_and_posts(self):
        yard, standing = ((0, 0), 4, (0, 1)), ((0, 0), (5, 0), (1, 0), (0, 1))
        reading, slope = ((1, 10), ZERO), (ZERO, (1, 1))
        wishes = (None, None, (3, 0), None)
        self.accept(yard, standing, wishes, ("turn", 10, (reading,), (slope,)))
        # The reading is not 0 of the floor.
        self.refuse_barred(yard, standing, wishes, ("turn", 20, (((1, 20), ZERO),), (slope,)))
        # The slope is not 0 of a post's difference from the base.
        self.accept(yard, standing, (None, None, (0, 0), None), ("turn", 10, (reading,), (slope,)))
        self.refuse_barred(yard, standing, (None, None, (0, 0), None), ("turn", 10, (reading,), (((1, 1), (1, 1)),)))

    def test_turn_papers_look_at_the_readings_of_wishes(self):
        yard, standing = ((0, 0, 5), 3, ()), ((0, 0, 0), (0, 0, 1), (0, 1, 0))
        slope = (ZERO, (1, 1), ZERO)
        self.accept(yard, standing, ((0, 0, 0), (1, 0, 3), None), ("turn", 5, ((ZERO, ZERO, (1, 5)),), (slope,)))
        self.refuse_barred(yard, standing, ((0, 0, 0), (1, 0, 3), None), ("turn", 5, (((1, 3), ZERO, (1, 5)),), (slope,)))

    def test_turn_papers_without_slopes_or_readings(self):
        yard, standing = ((7,), 2, ()), ((0,), (1,))
        self.accept(yard, standing, ((0,), (2,)), ("turn", 7, (((1, 7),),), ()))
        self.accept(yard, standing, ((3,), (1,)), ("turn", 7, (((1, 7),),), ()))
        self.refuse_barred(yard, standing, ((0,), (6,)), ("turn", 7, (((1, 7),),), ()))
        self.refuse_barred(yard, standing, ((0,), (2,)), ("turn", 7, (), ()))
        # Without readings both determinants are 1 or -1.
        self.refuse_barred(LINE, ((0,), (1,)), ((2,), None), ("turn", 3, (), (((1, 1),),)))
        self.refuse_barred(LINE, ((0,), (2,)), ((2,), None), ("turn", 3, (), (((1, 2),),)))
        self.refuse_barred(((0,), 2, (0,)), ((0,), (1,)), (None, None), ("turn", 3, (), (((1, 1),),)))

    def test_nobody_wished(self):
        # Without posts there is no base then, and no paper bars.
        for paper in [("colour", 0, ((1, 4),)), ("few", 3, ()), ("few", 2, (((1, 2),),)), ("turn", 5, (), ()), ("post", 0),
                      ("few", 3, (((1, 3),), ((1, 3),))), ("turn", 3, (), (((1, 1),),))]:
            self.refuse_barred(LINE, ((0,), (1,)), (None, None), paper)
            self.refuse_barred(((0,), 2, (0,)), ((0,), (1,)), (None, None), paper)
        self.assertIs(grants(LINE, ((0,), (1,)), (None, None), ("led", [], ((0,), (1,)))), True)
        self.assertIs(grants(LINE, ((0,), (1,)), (None, None), ("led", [(((0, 1),), 1)], ((2,), (1,)))), True)
        self.refuse(LINE, ((0,), (1,)), (None, None), ("led", [], ((2,), (1,))))

    def test_all_papers_on_small_rings(self):
        source = random.Random(1)
        for yard in [((4,), 2, ()), ((5,), 2, ()), ((6,), 3, ()), ((4,), 3, (1,)), ((3,), 3, (0, 2)), ((2, 2), 2, ())]:
            numbers = classes_of(yard)
            readings = [tuple((f.numerator, f.denominator) for f in some) for some in itertools.product(
                *[[Fraction(k, way) for k in range(way)] for way in yard[0]])]
            slope = (ZERO,) * len(yard[0])
            for _ in range(25):
                standing, other = source.choices(list(numbers), k=2)
                wishes = tuple(point if source.randrange(3) else None for point in other)
                aim = aim_by_hand(yard, standing, wishes)
                papers = [("post", post) for post in yard[2]]
                papers += [("colour", k, reading) for k in range(yard[1]) for reading in readings]
                if aim is not None:
                    papers += [("few", count, some) for count in (2, 3, 4, 6) for size in range(3)
                               for some in itertools.product(readings, repeat=size)]
                    papers += [("turn", count, some, (slope,) * aim[2]) for count in (2, 3, 4, 5, 6)
                               for some in itertools.product(readings, repeat=len(aim[0]))]
                barred = False
                for paper in papers:
                    found = grants(yard, standing, wishes, ("barred", paper))
                    self.assertIs(found, bars_by_hand(yard, standing, wishes, paper), (yard, standing, wishes, paper))
                    barred = barred or found
                possible = any(numbers[end] == numbers[standing] and grants_by_hand(wishes, end) for end in numbers)
                self.assertFalse(barred and possible)

    def test_papers_of_chance_are_judged_by_their_own_conditions(self):
        source = random.Random(2)
        barring = {"colour": 0, "few": 0, "turn": 0}
        for ways in GROUNDS:
            for persons in (2, 3, 4):
                for many in range(min(3, persons)):
                    yard = (ways, persons, tuple(sorted(source.sample(range(persons), many))))
                    for _ in range(40):
                        standing = generic(yard, source.random(), 2)
                        other = generic(yard, source.random(), 3)
                        wishes = tuple(point if source.randrange(3) else None for point in other)
                        aim = aim_by_hand(yard, standing, wishes)
                        if aim is None:
                            continue
                        readings = [random_reading(source, ways, 3) for _ in range(persons + 1)]
                        slopes = tuple(tuple(ZERO if way else (source.randint(-2, 2), 1) for way in ways)
                                       for _ in range(aim[2]))
                        for paper in [("colour", source.randrange(persons), readings[0]),
                                      ("few", source.choice([2, 3, 6]), tuple(readings[:aim[2] + 1])),
                                      ("few", source.choice([2, 3, 6]), tuple(readings[:source.randrange(3)])),
                                      ("turn", source.choice([2, 4, 6, 12, 60]), tuple(readings[:len(aim[0])]), slopes)]:
                            found = bars_by_hand(yard, standing, wishes, paper)
                            self.assertIs(grants(yard, standing, wishes, ("barred", paper)), found,
                                          (yard, standing, wishes, paper))
                            barring[paper[0]] += found
        self.assertTrue(min(barring.values()) > 3, barring)

    def test_what_granted_tells_is_refused_when_changed(self):
        source = random.Random(3)
        for yard in YARDS + [(ways, 4, ()) for ways in GROUNDS]:
            standing = generic(yard, source.random(), 9)
            after = done(yard, standing, random_row(yard, source, 3, 3))
            for wishes in some_wishes(yard, source, standing, after, 9):
                told = granted(yard, standing, wishes)
                for changed in changes_of(told):
                    self.refuse(yard, standing, wishes, changed)
                if told[0] == "led":
                    _, row, end = told
                    elsewhere = tuple((x + 1) % way if way else x + 1 for x, way in zip(end[0], yard[0]))
                    for other in [(elsewhere,) + end[1:], end[:-1], end + end[:1], list(end), [list(p) for p in end],
                                  (list(end[0]),) + end[1:], None, (), wishes if None in wishes else None,
                                  (end[0][:-1] + (None,),) + end[1:], (end[0][:-1] + (True,),) + end[1:]]:
                        self.refuse(yard, standing, wishes, ("led", row, other))
                    self.refuse(yard, standing, wishes, ("led", row + [None], end))
                    self.refuse(yard, standing, wishes, ("led", tuple(row), end))
                    self.refuse(yard, standing, wishes, ("led", end, row))
                    self.refuse(yard, standing, wishes, ("led", row))

    def test_changed_numbers_are_judged_anew(self):
        source = random.Random(4)
        for ways in GROUNDS:
            for posts in [(), (1,), (0, 2)]:
                yard = (ways, 4, posts)
                standing = generic(yard, source.random(), 4)
                after = done(yard, standing, random_row(yard, source, 3, 3))
                for wishes in some_wishes(yard, source, standing, after, 4):
                    told = granted(yard, standing, wishes)
                    for other in number_changes(told):
                        if told[0] == "led":
                            _, row, end = other
                            right = row_wrong(yard, row) is None and done(yard, standing, row) == end
                            right = right and grants_by_hand(wishes, end)
                        else:
                            paper = other[1]
                            right = readings_in(ways, paper) and (paper[0] != "post" or paper[1] in posts)
                            right = right and (paper[0] != "colour" or 0 <= paper[1] < 4)
                            right = right and (paper[0] not in ("few", "turn") or paper[1] >= 2)
                            right = right and bars_by_hand(yard, standing, wishes, paper)
                        self.assertIs(grants(yard, standing, wishes, other), right, (yard, standing, wishes, other))

    def test_rows_to_ends_that_do_not_grant(self):
        around = ((0, 1), (1, 0))
        self.assertIs(grants(LINE, ((0,), (1,)), ((2,), None), ("led", [(around, 1)], ((2,), (3,)))), True)
        self.assertIs(grants(LINE, ((0,), (1,)), ((2,), None), ("led", [(((0, 1),), 1)], ((2,), (1,)))), True)
        self.refuse(LINE, ((0,), (1,)), ((2,), None), ("led", [(around, 2)], ((4,), (5,))))
        self.refuse(LINE, ((0,), (1,)), ((2,), None), ("led", [(around, 1)], ((2,), (1,))))
        self.refuse(LINE, ((0,), (1,)), ((2,), None), ("led", [(around, 2)], ((2,), (3,))))
        self.refuse(((0,), 2, (0,)), ((0,), (1,)), (None, (3,)), ("led", [(around, 1)], ((2,), (3,))))
        self.refuse(LINE, ((0,), (1,)), ((2,), None), ("led", [(((0, 1),), 3)], ((2,), (1,))))

    def test_told_may_be_anything(self):
        for yard, standing, wishes in [(LINE, ((0,), (1,)), ((2,), None)), (LINE, ((0,), (1,)), ((1,), None)),
                                       (RING, ((0,), (1,)), ((0,), (2,))), (LINE, ((0,), (1,)), (None, None))]:
            right = granted(yard, standing, wishes)
            for told in JUNK + [[*right], right + (None,), right[:1], right[::-1], (right,), ("LED",) + right[1:],
                                (b"led",) + right[1:], (None,) + right[1:], (True,) + right[1:], ((right[0],),) + right[1:],
                                ("barred" if right[0] == "led" else "led",) + right[1:]]:
                self.refuse(yard, standing, wishes, told)
            for thing in JUNK:
                for word in ("led", "barred"):
                    self.refuse(yard, standing, wishes, (word, thing))
                    if thing != standing:
                        self.refuse(yard, standing, wishes, (word, [], thing))
                    self.refuse(yard, standing, wishes, (word, thing, thing))
                for name in ("post", "span", "colour", "few", "turn", "signs"):
                    for paper in [(name,), (name, thing), (name, thing, thing), (name, 2, thing), (name, thing, ((1, 2),)),
                                  (name, 2, thing, thing), (name, 2, (((1, 2),),), thing), (name, 2, thing, ()),
                                  (name, thing, (((1, 5),),), ()), (name, thing, (((1, 5),),))]:
                        if paper != ("turn", 5, (((1, 5),),), ()):
                            self.refuse_barred(yard, standing, wishes, paper)


def number_changes(thing):
    """Return what differs from thing in one number, which is one more or one less."""
    if type(thing) is int:
        return [thing + 1, thing - 1]
    if type(thing) not in (tuple, list):
        return []
    return [thing[:k] + type(thing)([other]) + thing[k + 1:] for k, part in enumerate(thing) for other in number_changes(part)]


def readings_in(ways, paper):
    """Return whether all fractions of a paper are fractions, and those on rings fit, where it has as many as ways."""
    def fits(thing):
        if type(thing) is not tuple:
            return True
        if len(thing) == len(ways) and all(type(part) is tuple and len(part) == 2 and type(part[0]) is int for part in thing):
            return all(bottom >= 1 and math.gcd(top, bottom) == 1 and top * way % bottom == 0
                       for way, (top, bottom) in zip(ways, thing))
        return all(fits(part) for part in thing)
    return fits(paper)


def changes_of(told):
    """Return what differs from a right answer in one part: a number, a part left out, a list, a truth, a word."""
    word, *rest = told
    found = [("barred" if word == "led" else "led", *rest), [*told], told[:-1], told + (None,), (word + "s", *rest)]
    if word == "led":
        row, end = rest
        for n, (leaps, times) in enumerate(row[:3]):
            for run in [(leaps, 0), (leaps, True), (list(leaps), times), [leaps, times], (leaps,), (leaps, times, 1)]:
                found.append((word, row[:n] + [run] + row[n + 1:], end))
        return found
    paper = rest[0]
    found += [(word, list(paper)), (word, paper[:-1]), (word, paper + (1,)), (word, ("x" + paper[0],) + paper[1:])]
    if paper[0] != "post":
        found.append((word, paper[:1] + (True,) + paper[2:]))
        found.append((word, paper[:2] + (list(paper[2]),) + paper[3:]))
    if paper[0] in ("few", "turn"):
        found += [(word, paper[:2] + (paper[2][:-1],) + paper[3:]) for _ in paper[2][:1]]
        found += [(word, paper[:2] + (paper[2] + paper[2][:1],) + paper[3:]) for _ in paper[2][:1]]
        found.append((word, paper[:1] + (1,) + paper[2:]))
    return found


class MainPromise(unittest.TestCase):

    def test_exactly_one_of_the_two(self):
        source = random.Random(1)
        for yard in RINGS:
            standings = standings_of(yard)
            for _ in range(20):
                standing, other = source.choice(standings), source.choice(standings)
                wishes = tuple(point if source.randrange(3) else None for point in other)
                told = granted(yard, standing, wishes)
                self.assertIs(grants(yard, standing, wishes, told), True)
                row = random_row(yard, source, 4, 5)
                end = done(yard, standing, row)
                self.assertIs(grants(yard, standing, wishes, ("led", row, end)), grants_by_hand(wishes, end))
                if grants_by_hand(wishes, end):
                    self.assertEqual(told[0], "led")


if __name__ == "__main__":
    unittest.main()
