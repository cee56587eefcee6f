"""Promises 1 and 2: rules for all functions; the examples of the document; the names of the interface."""

import copy
import enum
import inspect
import unittest
from collections import namedtuple

from leapfolk import (
    agains, cells, classes, colours, crowds, deeds, errors, evens, homes, makers as makers_file, readings, rows, spans,
    turns, verdicts, wishes, yards,
)
from leapfolk.agains import again
from leapfolk.cells import gathered
from leapfolk.classes import class_count, class_home, class_of
from leapfolk.colours import colour_points, same_colour
from leapfolk.crowds import greatest_crowd, meeting, meets
from leapfolk.deeds import deed_of, row_for
from leapfolk.errors import NoLeap, NoPerson, NoTable, TooMany
from leapfolk.evens import led_so, shows_so
from leapfolk.homes import home
from leapfolk.makers import makers
from leapfolk.readings import reading_wrong, reads
from leapfolk.rows import back, done, is_steady, leaps_in, row_wrong
from leapfolk.spans import floor, kept_span, lies_in, reduced, settled, span
from leapfolk.turns import kept, turn_between
from leapfolk.verdicts import shows, verdict
from leapfolk.wishes import granted, grants, wishes_wrong
from leapfolk.yards import leapt, standing_wrong, yard_wrong
from tests.samples import (
    BIG, JUNK, LINE, LINE_OF_THREE, YARDS, Unchanged, generic, is_plain, refusal, refusal_class, walkers_over,
)

AROUND = ((0, 1), (1, 0))
WIDE = ((0, 6), 4, (1, 3))
AT = ((4, 1), (0, 0), (7, 5), (-3, 2))
SEVEN = ((7,), 2, ())

INTERFACE = {
    yards: {"yard_wrong": ["thing"], "standing_wrong": ["yard", "thing"], "leapt": ["yard", "standing", "leap"]},
    rows: {"is_steady": ["persons", "leaps"], "row_wrong": ["yard", "thing"], "done": ["yard", "standing", "row"],
           "back": ["row"], "leaps_in": ["row"]},
    spans: {"reduced": ["width", "vectors"], "lies_in": ["rows", "vector"], "settled": ["rows", "vector"],
            "span": ["yard", "standing"], "floor": ["yard", "standing"], "kept_span": ["yard", "standing"]},
    makers_file: {"makers": ["yard", "standing"]},
    colours: {"colour_points": ["yard", "standing"], "same_colour": ["yard", "standing", "i", "j"]},
    readings: {"reading_wrong": ["yard", "thing"], "reads": ["yard", "reading", "vector"]},
    turns: {"turn_between": ["yard", "one", "other"], "kept": ["yard", "standing"]},
    homes: {"home": ["yard", "standing"]},
    verdicts: {"verdict": ["yard", "one", "other"], "shows": ["yard", "one", "other", "told"]},
    wishes: {"wishes_wrong": ["yard", "thing"], "granted": ["yard", "standing", "wishes"],
             "grants": ["yard", "standing", "wishes", "told"]},
    cells: {"gathered": ["yard", "standing", "corner", "steps"]},
    deeds: {"deed_of": ["persons", "row"], "row_for": ["persons", "posts", "table"]},
    agains: {"again": ["yard", "standing", "row", "most"]},
    evens: {"led_so": ["yard", "one", "other", "odd"], "shows_so": ["yard", "one", "other", "odd", "told"]},
    classes: {"class_count": ["ways", "persons"], "class_of": ["ways", "standing"],
              "class_home": ["ways", "persons", "number"]},
    crowds: {"meeting": ["yard", "standing", "persons"], "meets": ["yard", "standing", "persons", "told"],
             "greatest_crowd": ["yard", "standing"]},
}

# The one argument that is passed by name only, with its default.
BY_NAME = {"most": 10000}

# One ordinary question for each function, with the arguments in their order.
QUESTIONS = [
    (yard_wrong, [LINE]), (yard_wrong, [((1,), 7, ())]), (yard_wrong, [[[]]]),
    (standing_wrong, [LINE, ((0,), (1,))]), (standing_wrong, [LINE, ((0,), [1])]), (standing_wrong, [LINE, []]),
    (leapt, [((5,), 2, ()), ((1,), (4,)), (0, 1)]), (leapt, [LINE, ((-BIG,), (BIG,)), (1, 0)]),
    (is_steady, [2, AROUND]), (is_steady, [2, ((0, 1),)]),
    (row_wrong, [LINE, [(AROUND, 5)]]), (row_wrong, [LINE, [(AROUND, 5), [AROUND, 5]]]),
    (done, [LINE, ((0,), (1,)), [(AROUND, 5), (((0, 1),), 1)]]), (done, [LINE, ((0,), (1,)), []]),
    (back, [[(AROUND, 5), (((0, 1), (2, 3)), 1)]]), (back, [[]]),
    (leaps_in, [[(AROUND, 5), (((0, 1), (2, 3)), 1)]]),
    (reduced, [2, [(2, 1), (0, 3), (4, 5)]]), (reduced, [3, []]), (reduced, [1, [(BIG,), (6,)]]),
    (lies_in, [[(2, 1), (0, 3)], (4, 5)]), (lies_in, [[], (0, 0)]),
    (settled, [[(2, 1), (0, 3)], (4, 4)]), (settled, [[], (1, -7, 2)]),
    (span, [WIDE, AT]), (floor, [WIDE, AT]), (kept_span, [WIDE, AT]), (floor, [LINE, ((0,), (1,))]),
    (makers, [WIDE, AT]), (makers, [LINE, ((0,), (0,))]),
    (colour_points, [WIDE, AT]), (same_colour, [WIDE, AT, 0, 2]),
    (reading_wrong, [WIDE, ((1, 3), (5, 6))]), (reading_wrong, [WIDE, ((1, 3), (1, 5))]),
    (reads, [WIDE, ((1, 3), (5, 6)), (7, -1)]),
    (turn_between, [SEVEN, ((0,), (1,)), ((0,), (2,))]), (turn_between, [LINE, ((0,), (1,)), ((0,), (1,))]),
    (kept, [WIDE, AT]), (kept, [SEVEN, ((0,), (1,))]),
    (home, [WIDE, AT]), (home, [SEVEN, ((5,), (1,))]), (home, [((0, 0), 4, ()), ((0, 1), (BIG, 5), (3, 8), (9, -BIG))]),
    (verdict, [SEVEN, ((0,), (1,)), ((0,), (2,))]), (verdict, [SEVEN, ((0,), (1,)), ((2,), (3,))]),
    (verdict, [WIDE, AT, AT]), (verdict, [LINE, ((0,), (1,)), ((0,), (3,))]),
    (verdict, [((0,), 3, (0, 2)), ((0,), (1,), (3,)), ((0,), (601,), (3,))]),
    (shows, [LINE, ((0,), (1,)), ((10,), (11,)), ("led", [(AROUND, 5)])]),
    (shows, [SEVEN, ((0,), (1,)), ((0,), (2,)), ("barred", ("turn", 7, (((1, 7),),)))]),
    (shows, [LINE, ((0,), (1,)), ((0,), (3,)), ("barred", ("span", ((1, 3),)))]),
    (wishes_wrong, [WIDE, (None, (0, 0), (1, 5), None)]), (wishes_wrong, [WIDE, (None, (0, 0), (1, 6), None)]),
    (granted, [WIDE, AT, (None,) * 4]), (granted, [WIDE, AT, (None, None, (1, 5), None)]),
    (granted, [LINE, ((0,), (1,)), ((2,), None)]), (granted, [LINE, ((0,), (1,)), ((1,), None)]),
    (granted, [SEVEN, ((0,), (1,)), ((0,), (2,))]), (granted, [((0, 0), 4, ()), ((0, 0),) * 3 + ((1, 0),), ((0, 0),) * 4]),
    (granted, [((0, 5), 3, ()), ((0, 0), (0, 1), (1, 0)), ((0, 0), (0, 3), None)]),
    (grants, [LINE, ((0,), (1,)), ((2,), None), ("led", [(AROUND, 1)], ((2,), (3,)))]),
    (grants, [SEVEN, ((0,), (1,)), ((0,), (2,)), ("barred", ("turn", 7, (((1, 7),),), ()))]),
    (grants, [LINE, ((0,), (1,)), ((0,), (3,)), ("barred", ("few", 3, (((1, 3),),)))]),
    (gathered, [LINE, ((5,), (8,)), (2,), ((-3,),)]), (gathered, [((0, 0), 2, ()), ((1, 1), (1, 1)), (1, 1), ()]),
    (deed_of, [2, [(AROUND, 5)]]), (deed_of, [3, []]),
    (row_for, [2, (), ((-9, 10), (-10, 11))]), (row_for, [3, (0,), ((1, 0, 0), (0, -1, 2), (0, 0, 1))]),
    (again, [SEVEN, ((0,), (1,)), [(AROUND, 1)]]), (again, [LINE, ((0,), (1,)), [(AROUND, 1)]]),
    (again, [WIDE, AT, [(((0, 1),), 1)]]),
    (led_so, [LINE, ((0,), (1,)), ((0,), (1,)), True]), (led_so, [LINE, ((0,), (1,)), ((0,), (1,)), False]),
    (led_so, [WIDE, AT, AT, True]), (led_so, [SEVEN, ((0,), (1,)), ((0,), (2,)), False]),
    (shows_so, [LINE, ((0,), (1,)), ((2,), (1,)), True, ("led", [(((0, 1),), 1)])]),
    (shows_so, [LINE, ((0,), (1,)), ((0,), (1,)), True, ("barred", ("signs", 3, (((1, 3),),)))]),
    (class_count, [(2, 3), 2]), (class_of, [(6,), ((1,), (4,))]), (class_home, [(6,), 3, 2]),
    (meeting, [LINE_OF_THREE, ((0,), (1,), (2,)), (0, 2)]), (meeting, [LINE_OF_THREE, ((0,), (1,), (2,)), (0, 1)]),
    (meeting, [SEVEN, ((0,), (1,)), (0, 1)]), (meeting, [SEVEN, ((4,), (4,)), (0, 1)]),
    (meets, [LINE_OF_THREE, ((0,), (1,), (2,)), (0, 2), ("led", [(((0, 1),), 1)], ((2,), (1,), (2,)))]),
    (meets, [SEVEN, ((0,), (1,)), (0, 1), ("barred", ("few", 7, (((1, 7),),)))]),
    (greatest_crowd, [LINE_OF_THREE, ((0,), (1,), (2,))]),
]


class Small(enum.IntEnum):
    """Integers of a kind derived from int."""
    NONE = 0
    ONE = 1
    FIVE = 5


Pair = namedtuple("Pair", "first second")


class Six(enum.IntEnum):
    """More of these."""
    THREE = 3
    FOUR = 4
    SIX = 6


def lists_in(thing):
    """Return the lists in thing, with thing itself."""
    found = [thing] if isinstance(thing, list) else []
    if isinstance(thing, (list, tuple)):
        for item in thing:
            found += lists_in(item)
    return found


class Examples(unittest.TestCase):

    def test_rows(self):
        self.assertIs(is_steady(2, ((0, 1),)), False)
        self.assertIs(is_steady(2, ((0, 1), (1, 0))), True)
        self.assertIs(is_steady(3, ((0, 1), (0, 2))), True)
        self.assertEqual(done(((0,), 2, ()), ((0,), (1,)), [(((0, 1), (1, 0)), 5)]), ((10,), (11,)))

    def test_yards(self):
        self.assertEqual(leapt(((5,), 2, ()), ((1,), (4,)), (0, 1)), ((2,), (4,)))
        self.assertIs(refusal_class(leapt, ((0,), 2, (0,)), ((1,), (4,)), (0, 1)), NoLeap)
        self.assertEqual(yard_wrong(((1,), 7, ())), ('ways',))

    def test_makers(self):
        self.assertEqual(makers(((2, 4), 3, ()), ((0, 0), (1, 1), (0, 2))), [4])
        self.assertEqual(makers(((4, 6), 3, ()), ((0, 0), (1, 0), (0, 1))), [2, 12])
        self.assertEqual(makers(((0,), 3, (0, 2)), ((0,), (1,), (3,))), [6])

    def test_spans(self):
        self.assertEqual(reduced(2, [(2, 1), (0, 3), (4, 5)]), [(2, 1), (0, 3)])

    def test_colours(self):
        self.assertEqual(colour_points(((0,), 3, ()), ((0,), (3,), (6,))), ((0,), (3,), (0,)))
        error = refusal(same_colour, ((0,), 3, ()), ((0,), (3,), (6,)), 0, 3)
        self.assertIs(type(error), NoPerson)
        self.assertEqual(error.person, 3)

    def test_turns(self):
        self.assertEqual(turn_between(((7,), 2, ()), ((0,), (1,)), ((0,), (2,))), (7, 2))
        self.assertEqual(turn_between(((7,), 2, ()), ((0,), (2,)), ((0,), (1,))), (7, 3))

    def test_verdicts(self):
        self.assertIs(shows(((0,), 3, ()), ((0,), (3,), (0,)), ((0,), (1,), (0,)),
                            ('barred', ('colour', 1, ((1, 6),)))), True)
        self.assertIs(shows(((0,), 3, ()), ((0,), (1,), (0,)), ((0,), (3,), (0,)), ('barred', ('span', ((1, 3),)))),
                      True)
        self.assertEqual(verdict(((5,), 2, ()), ((0,), (1,)), ((0,), (2,)))[0], 'barred')
        self.assertEqual(verdict(((5,), 3, ()), ((0,), (1,), (0,)), ((0,), (2,), (0,)))[0], 'led')

    def test_wishes(self):
        self.assertEqual(granted(((0,), 2, ()), ((0,), (1,)), ((2,), None))[0], 'led')
        self.assertEqual(granted(((0,), 2, ()), ((0,), (1,)), ((1,), None))[0], 'barred')

    def test_cells(self):
        self.assertEqual(gathered(((0,), 2, ()), ((5,), (8,)), (2,), ((-3,),))[0], ((-1,), (2,)))

    def test_deeds(self):
        self.assertEqual(deed_of(2, [(((0, 1),), 1)]), ((-1, 2), (0, 1)))
        self.assertIs(refusal_class(row_for, 2, (), ((2, 0), (0, 1))), NoTable)

    def test_evens(self):
        self.assertIs(shows_so(((0,), 2, ()), ((0,), (1,)), ((0,), (1,)), True,
                               ('barred', ('signs', 3, (((1, 3),),)))), True)

    def test_crowds(self):
        self.assertEqual(greatest_crowd(((0,), 3, ()), ((0,), (1,), (2,))), 2)

    def test_agains(self):
        self.assertEqual(again(((0, 5), 2, ()), ((0, 0), (0, 1)), [(((0, 1), (1, 0)), 1)]), 5)
        error = refusal(again, ((0, 5), 2, ()), ((0, 0), (0, 1)), [(((0, 1), (1, 0)), 1)], most=4)
        self.assertIs(type(error), TooMany)
        self.assertEqual(error.most, 4)

    def test_classes(self):
        self.assertEqual(class_count((6,), 2), 16)


class Interface(unittest.TestCase):

    def test_names_places_and_arguments(self):
        for module, functions in INTERFACE.items():
            for name, wanted in functions.items():
                with self.subTest(name):
                    function = getattr(module, name)
                    self.assertEqual(function.__module__, module.__name__)
                    parameters = inspect.signature(function).parameters
                    self.assertEqual(list(parameters), wanted)
                    for parameter in parameters.values():
                        if parameter.name in BY_NAME:
                            self.assertIs(parameter.kind, inspect.Parameter.KEYWORD_ONLY)
                        else:
                            self.assertIs(parameter.kind, inspect.Parameter.POSITIONAL_OR_KEYWORD)
                        self.assertEqual(parameter.default, BY_NAME.get(parameter.name, inspect.Parameter.empty))

    def test_every_file_of_the_interface_is_looked_at(self):
        self.assertEqual(len(INTERFACE), 16)
        self.assertEqual(sum(len(functions) for functions in INTERFACE.values()), 39)

    def test_arguments_by_name(self):
        for function, arguments in QUESTIONS:
            names = list(inspect.signature(function).parameters)
            named = dict(reversed(list(zip(names, arguments))))
            self.assertEqual(function(**named), function(*arguments))

    def test_errors_are_those_of_the_package(self):
        for function, arguments in QUESTIONS:
            for at in range(len(arguments)):
                for thing in JUNK:
                    changed = arguments[:at] + [thing] + arguments[at + 1:]
                    error = refusal(function, *changed)
                    if error is not None:
                        self.assertIs(type(error).__base__, errors.FolkError, (function, changed))


class Results(unittest.TestCase):

    def test_no_argument_is_changed(self):
        for function, arguments in QUESTIONS:
            with Unchanged(self, *arguments):
                function(*arguments)

    def test_same_question_same_answer(self):
        for function, arguments in QUESTIONS:
            first = function(*arguments)
            for other, others in QUESTIONS:
                other(*others)
            self.assertEqual(function(*arguments), first)

    def test_plain_values_only(self):
        for function, arguments in QUESTIONS:
            self.assertTrue(is_plain(function(*arguments)), function)
        for yard in YARDS:
            for leap in walkers_over(yard):
                self.assertTrue(is_plain(leapt(yard, generic(yard), leap)))

    def test_kinds_of_values(self):
        self.assertIs(type(leapt(LINE, ((0,), (1,)), (0, 1))), tuple)
        self.assertIs(type(done(LINE, ((0,), (1,)), [])), tuple)
        self.assertIs(type(back([])), list)
        self.assertIs(type(leaps_in([])), int)
        self.assertIs(type(is_steady(2, AROUND)), bool)
        self.assertIs(type(back([(AROUND, 2)])[0]), tuple)

    def test_derived_kinds_are_never_returned(self):
        standing = (Pair(Small.NONE, Small.ONE), Pair(Small.FIVE, Small.FIVE), (0, 0))
        yard = ((0, 7), 3, ())
        self.assertTrue(is_plain(leapt(yard, standing, Pair(Small.ONE, Small.NONE))))
        self.assertTrue(is_plain(done(yard, standing, [])))
        self.assertTrue(is_plain(done(yard, standing, [(AROUND, Small.FIVE)])))
        row = [Pair((Pair(Small.NONE, Small.ONE), Pair(Small.ONE, Small.NONE)), Small.FIVE)]
        self.assertTrue(is_plain(back(row)))
        self.assertEqual(back(row), [(((1, 0), (0, 1)), 5)])
        self.assertTrue(is_plain(leaps_in(row)))

    def test_returned_lists_are_new(self):
        row = [(AROUND, 5), (((0, 1),), 1)]
        first = back(row)
        self.assertIsNot(first, row)
        first.append("mine")
        first[0] = None
        self.assertEqual(back(row), [(((0, 1),), 1), (((1, 0), (0, 1)), 5)])
        self.assertEqual(row, [(AROUND, 5), (((0, 1),), 1)])
        empty = []
        self.assertIsNot(back(empty), empty)
        back(empty).append(1)
        self.assertEqual(back(empty), [])

    def test_changes_of_returned_lists_change_no_later_answer(self):
        for function, arguments in QUESTIONS:
            first = function(*arguments)
            kept_answer = copy.deepcopy(first)
            for found in lists_in(first):
                found.append("mine")
                found.reverse()
                found[0] = None
            self.assertEqual(function(*arguments), kept_answer)

    def test_returned_lists_are_no_arguments(self):
        for function, arguments in QUESTIONS:
            given = [id(found) for found in lists_in(arguments)]
            self.assertFalse([found for found in lists_in(function(*arguments)) if id(found) in given])

    def test_derived_kinds_are_never_returned_by_later_stages(self):
        yard = (Pair(Small.NONE, Six.SIX), Six.FOUR, Pair(Small.ONE, Six.THREE))
        at = tuple(Pair(Small.ONE, Small(k)) for k in (1, 0, 5, 1))
        other = at[:2] + (Pair(Small.FIVE, Small.ONE),) + at[3:]
        for function in (span, floor, kept_span, makers, colour_points, home, kept):
            self.assertTrue(is_plain(function(yard, at)), function)
            self.assertEqual(function(yard, at), function(((0, 6), 4, (1, 3)), ((1, 1), (1, 0), (1, 5), (1, 1))))
        self.assertTrue(is_plain(verdict(yard, at, other)))
        self.assertTrue(is_plain(verdict(yard, at, at)))
        self.assertTrue(is_plain(verdict(yard, at, home(yard, at)[0])))
        self.assertTrue(is_plain(verdict(yard, at, (at[0], at[2], at[2], at[3]))))
        one = (Pair(Small.ONE, Small.ONE),)
        self.assertTrue(is_plain(reduced(Small.ONE, [(Small.FIVE,)])))
        self.assertTrue(is_plain(settled([(Small.FIVE,)], (Small.ONE,))))
        self.assertTrue(is_plain(settled([], Pair(Small.FIVE, Small.ONE))))
        self.assertTrue(is_plain(reads(LINE, one, (Small.FIVE,))))
        self.assertTrue(is_plain(turn_between((Pair(Six.THREE, Six.THREE)[:1], 2, ()), ((0,), (1,)), ((0,), (2,)))))

    def test_derived_kinds_are_never_returned_by_wishes_cells_and_deeds(self):
        yard = (Pair(Small.NONE, Six.SIX), Six.FOUR, Pair(Small.ONE, Six.THREE))
        at = tuple(Pair(Small.ONE, Small(k)) for k in (1, 0, 5, 1))
        self.assertTrue(is_plain(granted(yard, at, (None,) * 4)))
        self.assertTrue(is_plain(granted(yard, at, (None, at[1], Pair(Small.ONE, Six.THREE), None))))
        self.assertTrue(is_plain(granted(yard, at, (None, at[2], None, None))))
        self.assertTrue(is_plain(granted(yard, at, (Pair(Small.FIVE, Small.ONE), at[1], None, None))))
        line, two = ((Small.NONE, Small.NONE), Six.THREE, ()), Pair(Small.ONE, Small.NONE)
        here = (two, Pair(Small.FIVE, Small.NONE), Pair(Small.ONE, Six.THREE))
        self.assertTrue(is_plain(gathered(line, here, two, Pair(Pair(Six.FOUR, Small.NONE), Pair(Small.NONE, Six.THREE)))))
        self.assertEqual(deed_of(Six.THREE, [(AROUND, Small.FIVE)]), deed_of(3, [(AROUND, 5)]))
        self.assertTrue(is_plain(deed_of(Six.THREE, [(AROUND, Small.FIVE)])))
        self.assertTrue(is_plain(deed_of(Six.THREE, [(((Small.NONE, Small.ONE),), Small.ONE)])))
        table = ((Small.ONE, Small.NONE, Small.NONE), (Small.NONE, -1, 2), Pair(0, 0) + (Small.ONE,))
        self.assertTrue(is_plain(row_for(Six.THREE, (Small.NONE,), table)))
        self.assertEqual(row_for(Six.THREE, (Small.NONE,), table), row_for(3, (0,), ((1, 0, 0), (0, -1, 2), (0, 0, 1))))

    def test_derived_kinds_are_never_returned_by_the_last_stages(self):
        yard = (Pair(Small.NONE, Six.SIX), Six.FOUR, Pair(Small.ONE, Six.THREE))
        at = tuple(Pair(Small.ONE, Small(k)) for k in (1, 0, 5, 1))
        for odd in (True, False):
            self.assertTrue(is_plain(led_so(yard, at, at, odd)))
            self.assertTrue(is_plain(led_so(yard, at, home(yard, at)[0], odd)))
            self.assertTrue(is_plain(led_so(yard, at, (at[1], at[1], at[2], at[3]), odd)))
        self.assertTrue(is_plain(again(yard, at, [(((Small.NONE, Small.ONE),), Small.ONE)], most=Small.FIVE)))
        rings = Pair(Six.THREE, Six.FOUR)
        standing = (Pair(Small.NONE, Small.ONE), Pair(Small.ONE, Six.THREE))
        self.assertTrue(is_plain(class_count(rings, Small.ONE + Small.ONE)))
        self.assertEqual(class_of(rings, standing), class_of((3, 4), ((0, 1), (1, 3))))
        self.assertTrue(is_plain(class_of(rings, standing)))
        self.assertTrue(is_plain(class_home((Six.THREE,), Six.THREE, Small.ONE)))
        free = (Pair(Small.NONE, Six.SIX), Six.FOUR, ())
        self.assertTrue(is_plain(greatest_crowd(free, at)))
        for group in [Pair(Small.NONE, Small.ONE), (Small.NONE, Six.THREE), (Small.ONE, 2, Six.THREE)]:
            told = meeting(free, at, group)
            self.assertTrue(is_plain(told))
            self.assertIs(meets(free, at, group, told), True)
            # Also where nothing is to be done.
            self.assertTrue(is_plain(meeting(free, (at[0],) * 4, group)))

    def test_later_changes_of_an_argument_change_no_result(self):
        row = [(AROUND, 5), (((0, 1),), 1)]
        undoing = back(row)
        after = done(LINE, ((0,), (1,)), row)
        count = leaps_in(row)
        row.append((AROUND, 1))
        row[0] = None
        self.assertEqual(undoing, [(((0, 1),), 1), (((1, 0), (0, 1)), 5)])
        self.assertEqual(after, ((12,), (11,)))
        self.assertEqual(count, 11)

    def test_answer_follows_a_changed_argument(self):
        row = [(AROUND, 5)]
        self.assertEqual(done(LINE, ((0,), (1,)), row), ((10,), (11,)))
        row[0] = (AROUND, 1)
        self.assertEqual(done(LINE, ((0,), (1,)), row), ((2,), (3,)))
        row[0] = (((0, 1),), 2)
        self.assertEqual(row_wrong(LINE, row), ("steady", 0))

    def test_returned_values_may_be_passed_back(self):
        start = ((0,), (1,))
        row = [(AROUND, BIG)]
        after = done(LINE, start, row)
        for _ in range(5):
            after = done(LINE, after, back(back(row)))
        self.assertEqual(after, done(LINE, start, [(AROUND, 6 * BIG)]))
        self.assertIsNone(row_wrong(LINE, [(AROUND, leaps_in(row))]))


if __name__ == "__main__":
    unittest.main()
