"""The frame of a kept span over its floor: the makers, with a way of counting for each.

A vector of the kept span is known, up to the floor, by what is counted for the makers: for each maker a number modulo
the maker, or an exact one if the maker is 0. The frame is computed from reduced rows alone, so that all standings with
the same kept span and floor have the same frame.
"""

from leapfolk.arithmetic import is_all_zero, less_times, within
from leapfolk.grounds import floor_rows, kept_rows
from leapfolk.lattices import multiples, reduced_rows, settle


def swapped(items, one, other):
    """Return a new list in which two items have changed places."""
    changed = list(items)
    changed[one], changed[other] = items[other], items[one]
    return changed


def least_place(numbers, start):
    """Return the place, from a start on, of the number not 0 of smallest absolute value."""
    return min([(abs(number), place) for place, number in enumerate(numbers) if place >= start and number != 0])[1]


def row_cleared(columns, corner):
    """Return the columns after steps of columns that leave nothing in the corner's row behind the corner."""
    while True:
        columns = swapped(columns, corner, least_place([entries[corner] for entries in columns], corner))
        for number in range(corner + 1, len(columns)):
            times = columns[number][corner] // columns[corner][corner]
            columns[number] = less_times(columns[number], times, columns[corner])
        if is_row_clear(columns, corner):
            return columns


def is_row_clear(columns, corner):
    """Return whether the corner's row has nothing but zeros behind the corner."""
    return is_all_zero([entries[corner] for entries in columns[corner + 1:]])


def rows_summed(columns, one, times, other):
    """Return the columns after so many times one row is added to another one."""
    return [entries[:one] + [entries[one] + times * entries[other]] + entries[one + 1:] for entries in columns]


def column_cleared(columns, corner, end):
    """Return the columns after steps of rows that leave nothing in the corner's column behind the corner."""
    while True:
        least = least_place(columns[corner][:end], corner)
        columns = [swapped(entries, corner, least) for entries in columns]
        for row in range(corner + 1, end):
            times = columns[corner][row] // columns[corner][corner]
            columns = rows_summed(columns, row, -times, corner)
        if is_all_zero(columns[corner][corner + 1:end]):
            return columns


def row_not_divided(columns, corner, end):
    """Return a row behind the corner with an entry that the corner does not divide, or None."""
    for row in range(corner + 1, end):
        if not is_all_zero([entries[row] % columns[corner][corner] for entries in columns[corner + 1:]]):
            return row
    return None


def diagonal(columns, end):
    """Return the columns after so many first rows are brought to a diagonal, where each number divides the next."""
    corner = 0
    while corner < end:
        # Steps of columns and of rows are not mixed: one after the other they keep the numbers short.
        columns = column_cleared(row_cleared(columns, corner), corner, end)
        if is_row_clear(columns, corner):
            row = row_not_divided(columns, corner, end)
            if row is None:
                corner += 1
            else:
                columns = rows_summed(columns, corner, 1, row)
    return columns


class Frame:
    """The makers of a kept span over its floor, with a way of counting for each."""

    def __init__(self, kept, floor):
        size = len(kept)
        end = len(floor)
        inner = [multiples(kept, row) for row in floor]
        # Below what the floor has of each row of the kept span stands how the columns were made of one another.
        columns = diagonal([
            [row[number] for row in inner] + [1 if place == number else 0 for place in range(size)]
            for number in range(size)
        ], end)
        makers = [abs(columns[number][number]) if number < end else 0 for number in range(size)]
        # A maker that is 1 counts nothing.
        needed = [number for number in range(size) if makers[number] != 1]
        self.kept = kept
        self.floor = floor
        self.makers = [makers[number] for number in needed]
        self.columns = [
            [within(times, makers[number]) for times in columns[number][end:]] for number in needed
        ]

    def counted(self, vector):
        """Return what is counted for each maker in a vector of the kept span."""
        times = multiples(self.kept, vector)
        return [
            within(sum([many * each for many, each in zip(times, column)]), maker)
            for maker, column in zip(self.makers, self.columns)
        ]

    def units(self):
        """Return a vector for each maker of which 1 is counted for this maker and 0 for the others."""
        size = len(self.makers)
        # Each vector stands behind what is counted of it, so that the rows carry the vectors that are looked for.
        made = [self.counted(row) + row for row in self.kept]
        for number, maker in enumerate(self.makers):
            made.append([maker if place == number else 0 for place in range(size)] + [0] * len(self.kept[0]))
        return [settle(self.floor, row[size:]) for row in reduced_rows(size, made)]


def frame_of(yard, points):
    """Return the frame of a standing's kept span over its floor."""
    return Frame(kept_rows(yard, points), floor_rows(yard, points))
