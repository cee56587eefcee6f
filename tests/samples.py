"""Values that several test files use, and a second, plain way to compute what leaps do."""

import copy
import random

BIG = 10 ** 60 - 1          # sixty digits
HUGE = 10 ** 4000 - 7       # four thousand digits

LINE = ((0,), 2, ())
LINE_OF_THREE = ((0,), 3, ())
RING = ((5,), 2, ())
POSTED = ((0, 4), 4, (1, 3))
MIXED = ((0, 7, 2), 6, ())
ALL_BUT_ONE = ((3,), 6, (0, 1, 2, 4, 5))

YARDS = [
    LINE, LINE_OF_THREE, RING, POSTED, MIXED, ALL_BUT_ONE,
    ((2,), 2, (0,)), ((2, 2, 2), 6, (5,)), ((0, 0), 5, (0, 4)), ((0, 0, 0), 3, (2,)), ((BIG,), 3, ()),
]

# Nothing in here is a yard, a standing, a leap, a row, a number of persons or a tuple of leaps.
JUNK = [
    None, True, False, "", "text", "01", b"01", -1, 1, 7, 1.0, 2.0, (), {}, {0: 1}, set(), object(), int, len,
    (None,), (None, None), (None, None, None), (True, False), (True, False, True), ("a", "b"), ("a", "b", "c"),
    ([],), ((),), ((), ()), ((), (), ()), ([], [], []), [[]], [()], [None], [[], 1], {"ways": (0,)},
    (((),),), ((((),),),), range(2), range(3), iter([]),
]


def generic(yard, seed=1, bound=10 ** 6):
    """Return a standing of the yard with numbers that have nothing to do with each other."""
    source = random.Random(seed)
    ways, persons, _ = yard
    return tuple(
        tuple(source.randrange(way) if way else source.randint(-bound, bound) for way in ways)
        for _ in range(persons)
    )


def walkers_over(yard):
    """Return all leaps of the yard."""
    _, persons, posts = yard
    return [(i, j) for i in range(persons) for j in range(persons) if i != j and i not in posts]


def leap_by_hand(yard, standing, leap):
    """Return the standing after the leap, computed number by number."""
    i, j = leap
    rows = [list(point) for point in standing]
    for way, size in enumerate(yard[0]):
        number = rows[j][way] + (rows[j][way] - rows[i][way])
        rows[i][way] = number if size == 0 else ((number % size) + size) % size
    return tuple(tuple(point) for point in rows)


def row_by_hand(yard, standing, row):
    """Return the standing after the row, leap by leap."""
    for leaps, times in row:
        for _ in range(times):
            for leap in leaps:
                standing = leap_by_hand(yard, standing, leap)
    return standing


def matrix_of(persons, leaps):
    """Return the matrix that takes all places before the leaps to all places after them."""
    whole = [[int(k == m) for m in range(persons)] for k in range(persons)]
    for i, j in leaps:
        whole[i] = [2 * there - here for here, there in zip(whole[i], whole[j])]
    return whole


def steady_by_matrix(persons, leaps):
    """Return whether (M - 1)(M - 1) is 0, which is what steady means for the matrix M."""
    change = matrix_of(persons, leaps)
    for k in range(persons):
        change[k][k] -= 1
    return all(
        sum(change[k][m] * change[m][n] for m in range(persons)) == 0
        for k in range(persons) for n in range(persons)
    )


def is_plain(thing):
    """Return whether thing is made of plain tuples, lists, ints, strings, True, False and None only."""
    if type(thing) in (tuple, list):
        return all(is_plain(item) for item in thing)
    return type(thing) in (int, str, bool, type(None))


class Unchanged:
    """A block in which the given things, with all that is in them, stay as they are."""

    def __init__(self, test, *things):
        self.test = test
        self.things = things
        self.before = copy.deepcopy(things)

    def __enter__(self):
        return self

    def __exit__(self, kind, value, trace):
        if kind is None:
            self.test.assertEqual(self.things, self.before)


def refusal(call, *things, **named):
    """Return the error that the call raises, or None if it raises none."""
    try:
        call(*things, **named)
    except Exception as error:
        return error
    return None


def refusal_class(call, *things, **named):
    """Return the class of the error that the call raises."""
    return type(refusal(call, *things, **named))
