"""Values that several test files use, and a second, plain way to compute what leaps do."""

import copy
import itertools
import math
import random

BIG = 10 ** 60 - 1          # sixty digits
HUGE = 10 ** 4000 - 7       # four thousand digits

LINE = ((0,), 2, ())
LINE_OF_THREE = ((0,), 3, ())
RING = ((5,), 2, ())
POSTED = ((0, 4), 4, (1, 3))
MIXED = ((0, 7, 2), 6, ())
ALL_BUT_ONE = ((3,), 6, (0, 1, 2, 4, 5))

YARDS = [
    LINE, LINE_OF_THREE, RING, POSTED, MIXED, ALL_BUT_ONE,
    ((2,), 2, (0,)), ((2, 2, 2), 6, (5,)), ((0, 0), 5, (0, 4)), ((0, 0, 0), 3, (2,)), ((BIG,), 3, ()),
]

# Nothing in here is a yard, a standing, a leap, a row, a number of persons or a tuple of leaps.
JUNK = [
    None, True, False, "", "text", "01", b"01", -1, 1, 7, 1.0, 2.0, (), {}, {0: 1}, set(), object(), int, len,
    (None,), (None, None), (None, None, None), (True, False), (True, False, True), ("a", "b"), ("a", "b", "c"),
    ([],), ((),), ((), ()), ((), (), ()), ([], [], []), [[]], [()], [None], [[], 1], {"ways": (0,)},
    (((),),), ((((),),),), range(2), range(3), iter([]),
]


def generic(yard, seed=1, bound=10 ** 6):
    """Return a standing of the yard with numbers that have nothing to do with each other."""
    source = random.Random(seed)
    ways, persons, _ = yard
    return tuple(
        tuple(source.randrange(way) if way else source.randint(-bound, bound) for way in ways)
        for _ in range(persons)
    )


def walkers_over(yard):
    """Return all leaps of the yard."""
    _, persons, posts = yard
    return [(i, j) for i in range(persons) for j in range(persons) if i != j and i not in posts]


def leap_by_hand(yard, standing, leap):
    """Return the standing after the leap, computed number by number."""
    i, j = leap
    rows = [list(point) for point in standing]
    for way, size in enumerate(yard[0]):
        number = rows[j][way] + (rows[j][way] - rows[i][way])
        rows[i][way] = number if size == 0 else ((number % size) + size) % size
    return tuple(tuple(point) for point in rows)


def row_by_hand(yard, standing, row):
    """Return the standing after the row, leap by leap."""
    for leaps, times in row:
        for _ in range(times):
            for leap in leaps:
                standing = leap_by_hand(yard, standing, leap)
    return standing


def matrix_of(persons, leaps):
    """Return the matrix that takes all places before the leaps to all places after them."""
    whole = [[int(k == m) for m in range(persons)] for k in range(persons)]
    for i, j in leaps:
        whole[i] = [2 * there - here for here, there in zip(whole[i], whole[j])]
    return whole


def steady_by_matrix(persons, leaps):
    """Return whether (M - 1)(M - 1) is 0, which is what steady means for the matrix M."""
    change = matrix_of(persons, leaps)
    for k in range(persons):
        change[k][k] -= 1
    return all(
        sum(change[k][m] * change[m][n] for m in range(persons)) == 0
        for k in range(persons) for n in range(persons)
    )


def is_plain(thing):
    """Return whether thing is made of plain tuples, lists, ints, strings, True, False and None only."""
    if type(thing) in (tuple, list):
        return all(is_plain(item) for item in thing)
    return type(thing) in (int, str, bool, type(None))


class Unchanged:
    """A block in which the given things, with all that is in them, stay as they are."""

    def __init__(self, test, *things):
        self.test = test
        self.things = things
        self.before = copy.deepcopy(things)

    def __enter__(self):
        return self

    def __exit__(self, kind, value, trace):
        if kind is None:
            self.test.assertEqual(self.things, self.before)


def refusal(call, *things, **named):
    """Return the error that the call raises, or None if it raises none."""
    try:
        call(*things, **named)
    except Exception as error:
        return error
    return None


def refusal_class(call, *things, **named):
    """Return the class of the error that the call raises."""
    return type(refusal(call, *things, **named))


def digits_of(thing):
    """Return how many digits the integer with the largest absolute value in thing has, at least 1."""
    if isinstance(thing, (tuple, list)):
        return max((digits_of(item) for item in thing), default=1)
    if not isinstance(thing, int):
        return 1
    # Python refuses to write out very long integers, so the digits are found by comparing.
    size, many = abs(thing), max(1, abs(thing).bit_length() * 30102 // 100000)
    while size >= 10 ** many:
        many += 1
    return many


def standings_of(yard):
    """Return all standings of a yard that has only rings."""
    points = list(itertools.product(*[range(way) for way in yard[0]]))
    return list(itertools.product(points, repeat=yard[1]))


def classes_of(yard):
    """Return a dict that gives each standing of a yard of rings the number of its class, leap by leap."""
    numbers, number = {}, -1
    for start in standings_of(yard):
        if start in numbers:
            continue
        number += 1
        numbers[start] = number
        waiting = [start]
        while waiting:
            standing = waiting.pop()
            for leap in walkers_over(yard):
                after = leap_by_hand(yard, standing, leap)
                if after not in numbers:
                    numbers[after] = number
                    waiting.append(after)
    return numbers


def determinant_by_hand(rows):
    """Return the determinant, by its sum over all permutations."""
    size = len(rows)
    total = 0
    for order in itertools.permutations(range(size)):
        product = -1 if sum(order[a] > order[b] for a in range(size) for b in range(a + 1, size)) % 2 else 1
        for row, column in enumerate(order):
            product *= rows[row][column]
        total += product
    return total


def minors_gcd(rows, size):
    """Return the greatest common divisor of all minors of that size."""
    found = 0
    if not rows:
        return 1 if size == 0 else 0
    for some in itertools.combinations(range(len(rows)), size):
        for columns in itertools.combinations(range(len(rows[0])), size):
            found = math.gcd(found, determinant_by_hand([[rows[r][c] for c in columns] for r in some]))
    return found


def in_lattice(rows, vector):
    """Return whether the vector is a sum of integer multiples of rows in echelon form, each tried in turn."""
    rest = list(vector)
    for row in rows:
        place = next(k for k, number in enumerate(row) if number)
        if rest[place] % row[place]:
            return False
        times = rest[place] // row[place]
        rest = [number - times * less for number, less in zip(rest, row)]
    return not any(rest)


def same_lattice(rows, vectors):
    """Return whether rows in echelon form generate the lattice of the vectors.

    It is contained in the lattice of the rows, and equal to it exactly if the minors have the same common divisor.
    """
    return all(in_lattice(rows, v) for v in vectors) and minors_gcd(rows, len(rows)) == minors_gcd(vectors, len(rows))


def has_reduced_form(rows, width):
    """Return whether rows have the properties of reduced rows, as the document lists them."""
    places = []
    for row in rows:
        if type(row) is not tuple or len(row) != width or not any(row):
            return False
        places.append(next(k for k, number in enumerate(row) if number))
    if any(row[place] <= 0 for row, place in zip(rows, places)):
        return False
    if any(a >= b for a, b in zip(places, places[1:])):
        return False
    return all(0 <= rows[early][places[late]] < rows[late][places[late]]
               for late in range(len(rows)) for early in range(late))


def minus(one, other):
    """Return the vector from the point other to the point one."""
    return tuple(a - b for a, b in zip(one, other))


def base_by_hand(yard):
    """Return the base."""
    return yard[2][0] if yard[2] else 0


def movers_by_hand(yard):
    """Return the movers."""
    return [person for person in range(yard[1]) if person not in yard[2] and person != base_by_hand(yard)]


def rings_by_hand(yard):
    """Return the ring vectors."""
    ways = yard[0]
    return [tuple(way if k == n else 0 for k in range(len(ways))) for n, way in enumerate(ways) if way]


def floor_by_hand(yard, standing):
    """Return vectors that generate the floor."""
    base = standing[base_by_hand(yard)]
    return [tuple(2 * number for number in minus(standing[post], base)) for post in yard[2]] + rings_by_hand(yard)


def differences_by_hand(yard, standing):
    """Return the movers' differences from the base."""
    base = standing[base_by_hand(yard)]
    return [minus(standing[mover], base) for mover in movers_by_hand(yard)]


def random_row(yard, source, runs, bound):
    """Return a row with leaps done once, exchanging leaps and leaps over two, repeated up to bound times."""
    walkers = [person for person in range(yard[1]) if person not in yard[2]]
    row = []
    for _ in range(runs):
        i = source.choice(walkers)
        j, k = (source.choice([person for person in range(yard[1]) if person != i]) for _ in range(2))
        kind = source.randrange(3)
        if kind == 0:
            row.append((((i, j),), 1))
        elif kind == 1 and j in walkers:
            row.append((((i, j), (j, i)), source.randint(1, bound)))
        else:
            row.append((((i, j), (i, k)), source.randint(1, bound)))
    return row
