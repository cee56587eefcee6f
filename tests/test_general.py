"""Promises 1 and 2: rules for all functions; the examples of the document; the names of the interface."""

import enum
import inspect
import unittest
from collections import namedtuple

from leapfolk import errors, rows, yards
from leapfolk.errors import NoLeap
from leapfolk.rows import back, done, is_steady, leaps_in, row_wrong
from leapfolk.yards import leapt, standing_wrong, yard_wrong
from tests.samples import BIG, JUNK, LINE, YARDS, Unchanged, generic, is_plain, refusal, refusal_class, walkers_over

AROUND = ((0, 1), (1, 0))

INTERFACE = {
    yards: {"yard_wrong": ["thing"], "standing_wrong": ["yard", "thing"], "leapt": ["yard", "standing", "leap"]},
    rows: {"is_steady": ["persons", "leaps"], "row_wrong": ["yard", "thing"], "done": ["yard", "standing", "row"],
           "back": ["row"], "leaps_in": ["row"]},
}

# One ordinary question for each function, with the arguments in their order.
QUESTIONS = [
    (yard_wrong, [LINE]), (yard_wrong, [((1,), 7, ())]), (yard_wrong, [[[]]]),
    (standing_wrong, [LINE, ((0,), (1,))]), (standing_wrong, [LINE, ((0,), [1])]), (standing_wrong, [LINE, []]),
    (leapt, [((5,), 2, ()), ((1,), (4,)), (0, 1)]), (leapt, [LINE, ((-BIG,), (BIG,)), (1, 0)]),
    (is_steady, [2, AROUND]), (is_steady, [2, ((0, 1),)]),
    (row_wrong, [LINE, [(AROUND, 5)]]), (row_wrong, [LINE, [(AROUND, 5), [AROUND, 5]]]),
    (done, [LINE, ((0,), (1,)), [(AROUND, 5), (((0, 1),), 1)]]), (done, [LINE, ((0,), (1,)), []]),
    (back, [[(AROUND, 5), (((0, 1), (2, 3)), 1)]]), (back, [[]]),
    (leaps_in, [[(AROUND, 5), (((0, 1), (2, 3)), 1)]]),
]


class Small(enum.IntEnum):
    """Integers of a kind derived from int."""
    NONE = 0
    ONE = 1
    FIVE = 5


Pair = namedtuple("Pair", "first second")


class Examples(unittest.TestCase):

    def test_rows(self):
        self.assertIs(is_steady(2, ((0, 1),)), False)
        self.assertIs(is_steady(2, ((0, 1), (1, 0))), True)
        self.assertIs(is_steady(3, ((0, 1), (0, 2))), True)
        self.assertEqual(done(((0,), 2, ()), ((0,), (1,)), [(((0, 1), (1, 0)), 5)]), ((10,), (11,)))

    def test_yards(self):
        self.assertEqual(leapt(((5,), 2, ()), ((1,), (4,)), (0, 1)), ((2,), (4,)))
        self.assertIs(refusal_class(leapt, ((0,), 2, (0,)), ((1,), (4,)), (0, 1)), NoLeap)
        self.assertEqual(yard_wrong(((1,), 7, ())), ('ways',))


class Interface(unittest.TestCase):

    def test_names_places_and_arguments(self):
        for module, functions in INTERFACE.items():
            for name, wanted in functions.items():
                with self.subTest(name):
                    function = getattr(module, name)
                    self.assertEqual(function.__module__, module.__name__)
                    parameters = inspect.signature(function).parameters
                    self.assertEqual(list(parameters), wanted)
                    for parameter in parameters.values():
                        self.assertIs(parameter.kind, inspect.Parameter.POSITIONAL_OR_KEYWORD)
                        self.assertIs(parameter.default, inspect.Parameter.empty)

    def test_arguments_by_name(self):
        for function, arguments in QUESTIONS:
            names = list(inspect.signature(function).parameters)
            named = dict(reversed(list(zip(names, arguments))))
            self.assertEqual(function(**named), function(*arguments))

    def test_errors_are_those_of_the_package(self):
        for function, arguments in QUESTIONS:
            for at in range(len(arguments)):
                for thing in JUNK:
                    changed = arguments[:at] + [thing] + arguments[at + 1:]
                    error = refusal(function, *changed)
                    if error is not None:
                        self.assertIs(type(error).__base__, errors.FolkError, (function, changed))


class Results(unittest.TestCase):

    def test_no_argument_is_changed(self):
        for function, arguments in QUESTIONS:
            with Unchanged(self, *arguments):
                function(*arguments)

    def test_same_question_same_answer(self):
        for function, arguments in QUESTIONS:
            first = function(*arguments)
            for other, others in QUESTIONS:
                other(*others)
            self.assertEqual(function(*arguments), first)

    def test_plain_values_only(self):
        for function, arguments in QUESTIONS:
            self.assertTrue(is_plain(function(*arguments)), function)
        for yard in YARDS:
            for leap in walkers_over(yard):
                self.assertTrue(is_plain(leapt(yard, generic(yard), leap)))

    def test_kinds_of_values(self):
        self.assertIs(type(leapt(LINE, ((0,), (1,)), (0, 1))), tuple)
        self.assertIs(type(done(LINE, ((0,), (1,)), [])), tuple)
        self.assertIs(type(back([])), list)
        self.assertIs(type(leaps_in([])), int)
        self.assertIs(type(is_steady(2, AROUND)), bool)
        self.assertIs(type(back([(AROUND, 2)])[0]), tuple)

    def test_derived_kinds_are_never_returned(self):
        standing = (Pair(Small.NONE, Small.ONE), Pair(Small.FIVE, Small.FIVE), (0, 0))
        yard = ((0, 7), 3, ())
        self.assertTrue(is_plain(leapt(yard, standing, Pair(Small.ONE, Small.NONE))))
        self.assertTrue(is_plain(done(yard, standing, [])))
        self.assertTrue(is_plain(done(yard, standing, [(AROUND, Small.FIVE)])))
        row = [Pair((Pair(Small.NONE, Small.ONE), Pair(Small.ONE, Small.NONE)), Small.FIVE)]
        self.assertTrue(is_plain(back(row)))
        self.assertEqual(back(row), [(((1, 0), (0, 1)), 5)])
        self.assertTrue(is_plain(leaps_in(row)))

    def test_returned_lists_are_new(self):
        row = [(AROUND, 5), (((0, 1),), 1)]
        first = back(row)
        self.assertIsNot(first, row)
        first.append("mine")
        first[0] = None
        self.assertEqual(back(row), [(((0, 1),), 1), (((1, 0), (0, 1)), 5)])
        self.assertEqual(row, [(AROUND, 5), (((0, 1),), 1)])
        empty = []
        self.assertIsNot(back(empty), empty)
        back(empty).append(1)
        self.assertEqual(back(empty), [])

    def test_later_changes_of_an_argument_change_no_result(self):
        row = [(AROUND, 5), (((0, 1),), 1)]
        undoing = back(row)
        after = done(LINE, ((0,), (1,)), row)
        count = leaps_in(row)
        row.append((AROUND, 1))
        row[0] = None
        self.assertEqual(undoing, [(((0, 1),), 1), (((1, 0), (0, 1)), 5)])
        self.assertEqual(after, ((12,), (11,)))
        self.assertEqual(count, 11)

    def test_answer_follows_a_changed_argument(self):
        row = [(AROUND, 5)]
        self.assertEqual(done(LINE, ((0,), (1,)), row), ((10,), (11,)))
        row[0] = (AROUND, 1)
        self.assertEqual(done(LINE, ((0,), (1,)), row), ((2,), (3,)))
        row[0] = (((0, 1),), 2)
        self.assertEqual(row_wrong(LINE, row), ("steady", 0))

    def test_returned_values_may_be_passed_back(self):
        start = ((0,), (1,))
        row = [(AROUND, BIG)]
        after = done(LINE, start, row)
        for _ in range(5):
            after = done(LINE, after, back(back(row)))
        self.assertEqual(after, done(LINE, start, [(AROUND, 6 * BIG)]))
        self.assertIsNone(row_wrong(LINE, [(AROUND, leaps_in(row))]))


if __name__ == "__main__":
    unittest.main()
