"""The movers' lines of numbers, and the runs that bring them to what stands for their class.

Each mover has a line with one number per maker, which tells the mover's difference from the base in the frame of the
kept span over the floor. From the last maker to the first, all numbers are brought down to 0 and 1, and one line
becomes the pivot of the maker's column. From then on every other line that is odd there is taken without the pivot,
whatever is done to it. What is left is the same for all standings of a class.
"""

from leapfolk.arithmetic import centred, inverse_within, less_times, within
from leapfolk.halving import steps_to_parities


def leaps_adding(group, over, base, times):
    """Return leaps that move each of the group by so many times twice the difference of a person from the base."""
    first, then = (base, over) if times > 0 else (over, base)
    return [(person, other) for person in group for other in (first, then)] * abs(times)


def leaps_with_one(group, over, times):
    """Return leaps that move all of the group by so many times twice what one of them is from the first."""
    first, then = (group[0], over) if times > 0 else (over, group[0])
    others = [person for person in group if person != first and person != then]
    both = [(first, then), (then, first)]
    return (leaps_adding(others, then, first, 1) + both) * abs(times)


def leaps_moving(group, mix, base):
    """Return leaps that move each of the group by twice the sum of differences from the base that mix tells.

    mix is a list of (person, times). The times of those in the group have the sum 0, unless the group begins with
    the base; so the leaps do not change that sum of differences.
    """
    leaps = []
    for person, times in mix:
        if person not in group:
            leaps += leaps_adding(group, person, base, times)
        elif person != group[0]:
            leaps += leaps_with_one(group, person, times)
    return leaps


def run_of(leaps, times):
    """Return a list with the run that repeats the leaps so many times, backwards if times is below 0."""
    if times == 0 or not leaps:
        return []
    if times < 0:
        return [(tuple(leaps[::-1]), -times)]
    return [(tuple(leaps), times)]


class Lines:
    """The movers' lines, and the runs that were done to them so far."""

    def __init__(self, base, movers, makers, numbers):
        size = len(movers)
        self.base = base
        self.movers = movers
        self.makers = makers
        # numbers: each line without the pivots that it holds. mixes: how often each mover's difference is in that.
        self.numbers = numbers
        self.mixes = [[1 if other == line else 0 for other in range(size)] for line in range(size)]
        self.held = [[] for line in range(size)]
        # The line that is the pivot of a column, by the column.
        self.pivots = {}
        self.runs = []

    def mixed(self, mix):
        """Return a mix of lines as a list of (person, times)."""
        return [(self.movers[line], times) for line, times in enumerate(mix) if times != 0]

    def run_group(self, group, mix, times):
        """Do the run that moves each line of the group by so many times twice the mix of lines."""
        persons = [self.movers[line] for line in group]
        self.runs += run_of(leaps_moving(persons, self.mixed(mix), self.base), times)

    def change(self, line, times, other):
        """Count so many times other numbers to a line's numbers."""
        changed = less_times(self.numbers[line], -times, other)
        self.numbers[line] = [within(number, maker) for number, maker in zip(changed, self.makers)]

    def turn(self, line):
        """Do the run that gives a line, without the pivots that it holds, the other sign."""
        # The leap over the base turns the whole line, so the pivots are to be given back twice.
        rest = [0 if other == line else -times for other, times in enumerate(self.mixes[line])]
        mover = self.movers[line]
        leaps = [(mover, self.base)] + leaps_moving([mover], self.mixed(rest), self.base)
        self.runs += run_of(leaps, 1)
        self.change(line, -2, self.numbers[line])

    def do_step(self, step):
        """Do a step of leapfolk.halving, whose positions are lines."""
        kind, i, j, times = step
        if kind == "turn":
            self.turn(i)
        elif kind == "add":
            self.run_group([i], self.mixes[j], times)
            self.change(i, 2 * times, self.numbers[j])
        else:
            self.run_group([i, j], less_times(self.mixes[j], 1, self.mixes[i]), times)
            gap = less_times(self.numbers[j], 1, self.numbers[i])
            self.change(i, 2 * times, gap)
            self.change(j, 2 * times, gap)

    def shown(self, line, column, odd):
        """Return a number of a line, small; where the maker is odd, an odd or an even number as asked for."""
        maker = self.makers[column]
        number = self.numbers[line][column]
        if maker % 2 == 0:
            return centred(number, maker)
        if number % 2 != odd:
            number += maker
        return centred(number, 2 * maker)

    def bring_down(self, column, free):
        """Bring the free lines' numbers in the column to 0 and 1; return the line that is to be the pivot."""
        maker = self.makers[column]
        # In the column of an odd maker odd and even mean nothing, so that the first line may be the odd one.
        numbers = [self.shown(line, column, 1 if line == free[0] else 0) for line in free]
        for kind, i, j, times in steps_to_parities(numbers, maker if maker % 2 == 0 else 2 * maker):
            self.do_step((kind, free[i], free[j], times))
        odd = [line for line, number in zip(free, numbers) if number % 2 == 1]
        pivot = odd[0]
        for other in odd[1:]:
            self.change(other, -1, self.numbers[pivot])
            self.mixes[other] = less_times(self.mixes[other], 1, self.mixes[pivot])
            self.held[other].append(pivot)
        return pivot

    def bring_last(self, line):
        """Give the only line that is left in the first column the sign with which its number is the smaller one."""
        number, maker = self.numbers[line][0], self.makers[0]
        if (maker == 0 and number < 0) or (maker != 0 and 2 * number > maker):
            self.turn(line)
        return line

    def bring_pivots(self, column, pivot):
        """Bring the numbers of the earlier pivots in the column to 0 and 1, by twice the new pivot."""
        maker = self.makers[column]
        unit_back = inverse_within(self.numbers[pivot][column], maker)
        for line in list(self.pivots.values()):
            number = self.shown(line, column, 0)
            times = centred(-(number // 2) * unit_back, maker)
            # All lines that hold this pivot move with it, so that they stay the same without it.
            group = [line] + [other for other in range(len(self.held)) if line in self.held[other]]
            self.run_group(group, self.mixes[pivot], times)
            self.change(line, 2 * times, self.numbers[pivot])

    def bring_column(self, column):
        """Bring all numbers of a column to 0 and 1, but for the turn, and choose the column's pivot."""
        chosen = list(self.pivots.values())
        free = [line for line in range(len(self.movers)) if line not in chosen]
        if len(free) > 1:
            pivot = self.bring_down(column, free)
        else:
            pivot = self.bring_last(free[0])
        self.bring_pivots(column, pivot)
        self.pivots[column] = pivot

    def bring_all(self):
        """Bring all columns down, from the last to the first."""
        for column in range(len(self.makers) - 1, -1, -1):
            self.bring_column(column)
