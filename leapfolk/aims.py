"""What wishes of some persons ask for, and an end that grants them; all arguments are taken to be valid."""

from leapfolk.arithmetic import coprime_like, determinant, inverse_within, less_times, sum_of_times, vector_between
from leapfolk.frames import Frame
from leapfolk.grounds import colour_rows, floor_vectors, kept_rows, posts_of
from leapfolk.lattices import reduced_rows, settle
from leapfolk.moves import onto_way


class Aim:
    """What wishes ask for in a standing: the base, and who of the movers is bound and who is free.

    start is where the base is to stand. wanted holds the wishes of the bound movers, vectors the differences of all
    movers from the base as they stand.
    """

    def __init__(self, yard, points, wishes):
        posts = posts_of(yard)
        wished = [person for person in range(len(points)) if wishes[person] is not None]
        self.base = (posts + wished)[0]
        self.start = points[self.base] if posts else wishes[self.base]
        self.movers = [person for person in range(len(points)) if person not in posts and person != self.base]
        self.bound = [mover for mover in self.movers if mover in wished]
        self.free = [mover for mover in self.movers if mover not in wished]
        self.wanted = [vector_between(self.start, wishes[mover]) for mover in self.bound]
        self.vectors = [vector_between(points[self.base], points[mover]) for mover in self.movers]
        self.floor = floor_vectors(yard, points)


class Opening:
    """What wishes leave open whose colours are right, so that they lie in the kept span.

    whole is the frame of the kept span over the floor, rest that over the floor and the wishes.
    """

    def __init__(self, yard, points, aim):
        width = len(yard[0])
        kept = kept_rows(yard, points)
        self.whole = Frame(kept, reduced_rows(width, aim.floor))
        self.rest = Frame(kept, reduced_rows(width, aim.floor + aim.wanted))

    def has_turn(self, aim):
        """Return whether the standing has a turn."""
        makers = self.whole.makers
        return len(makers) == len(aim.movers) and makers[0] != 0

    def is_rigid(self, aim):
        """Return whether nothing that is left open can change the turn."""
        return not aim.free or self.rest.makers[0] == 0


def lines_of_parities(makers, lines):
    """Return lines of whole numbers that make up all that the makers count, odd and even as the given lines are.

    The given lines make up all of it modulo 2. Where a maker is odd, odd and even mean nothing.
    """
    numbers = [[number % 2 for number in line] for line in lines]
    held = [[line] for line in range(len(lines))]
    pivots = []
    for column in range(len(makers) - 1, -1, -1):
        free = [line for line in range(len(lines)) if line not in pivots]
        if makers[column] % 2 == 1:
            for line in range(len(lines)):
                numbers[line][column] = 1 if line == free[0] else 0
        odd = [line for line in free if numbers[line][column] == 1]
        pivot = odd[0]
        pivots.append(pivot)
        for other in odd[1:]:
            numbers[other] = [number % 2 for number in less_times(numbers[other], 1, numbers[pivot])]
            held[other].append(pivot)
    return [sum_of_times([numbers[part] for part in some], [1] * len(some), len(makers)) for some in held]


def right_in_colour(yard, points, aim, vectors):
    """Return the free movers' vectors with wishes added to them, so that each mover keeps its colour."""
    width, many = len(yard[0]), len(aim.bound)
    made = [row + [0] * many for row in colour_rows(yard, points)]
    for number, wish in enumerate(aim.wanted):
        made.append(wish + [1 if place == number else 0 for place in range(many)])
    # The rows carry how often each wish is in them. Of twice a wish the colours know nothing.
    rows = reduced_rows(width, made)
    found = []
    for mover, vector in zip(aim.free, vectors):
        path = vector_between(aim.vectors[aim.movers.index(mover)], vector)
        times = [each % 2 for each in settle(rows, path + [0] * many)[width:]]
        found.append(less_times(vector, -1, sum_of_times(aim.wanted, times, width)))
    return found


def ordered(aim, vectors):
    """Return the wishes and the free movers' vectors in the order of the movers."""
    placed = {}
    for mover, vector in list(zip(aim.bound, aim.wanted)) + list(zip(aim.free, vectors)):
        placed[mover] = vector
    return [placed[mover] for mover in aim.movers]


def times_for_turn(opening, aim, vectors):
    """Return how often the first unit is to be taken, so that the turn is that of the standing."""
    frame = opening.whole
    maker = frame.makers[0]
    now, then = [
        determinant([frame.counted(vector) for vector in some]) for some in (aim.vectors, ordered(aim, vectors))
    ]
    return coprime_like(now * inverse_within(then, maker) % maker, maker, opening.rest.makers[0])


def free_vectors(yard, points, aim, opening):
    """Return differences from the base for the free movers, with which the standing stays in its class."""
    width = len(yard[0])
    counted = [opening.rest.counted(aim.vectors[aim.movers.index(mover)]) for mover in aim.free]
    lines = lines_of_parities(opening.rest.makers, counted)
    units = opening.rest.units()
    vectors = right_in_colour(yard, points, aim, [sum_of_times(units, line, width) for line in lines])
    if not opening.has_turn(aim) or opening.is_rigid(aim):
        return vectors
    times = times_for_turn(opening, aim, vectors)
    units[0] = [times * number for number in units[0]]
    return right_in_colour(yard, points, aim, [sum_of_times(units, line, width) for line in lines])


def end_of_aim(yard, points, wishes, aim, opening):
    """Return points that grant the wishes and to which a row leads."""
    end = [point if wish is None else wish for point, wish in zip(points, wishes)]
    for mover, vector in zip(aim.free, free_vectors(yard, points, aim, opening)):
        end[mover] = tuple([onto_way(way, low + high) for way, low, high in zip(yard[0], aim.start, vector)])
    return end
