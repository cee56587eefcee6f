"""How lines that leap over one another bring their numbers down to 0 and 1.

A step is a tuple (kind, i, j, times), where i and j are positions of numbers.
- "turn": number i gets the other sign.
- "add": number i gets so many times twice number j.
- "pair": numbers i and j both get so many times twice what j is above i.
All steps keep each number odd or even.
"""


def least_position(numbers):
    """Return the position of the number not 0 of smallest absolute value."""
    return min([(abs(number), k) for k, number in enumerate(numbers) if number != 0])[1]


def sign(number):
    """Return 1 or -1, as the number is positive or negative."""
    return 1 if number > 0 else -1


def brought_near(numbers, j, steps):
    """Bring all other numbers between number j and its negative, and note the steps."""
    size = abs(numbers[j])
    for i in range(len(numbers)):
        times = (numbers[i] + size) // (2 * size)
        if i != j and times != 0:
            numbers[i] -= 2 * size * times
            steps.append(("add", i, j, -times * sign(numbers[j])))


def halved(numbers, j, steps):
    """Leave some number not 0 of at most half the size of number j, if one is smaller than that at all."""
    size = abs(numbers[j])
    smaller = [(abs(number), k) for k, number in enumerate(numbers) if 0 < abs(number) < size]
    if not smaller or 2 * min(smaller)[0] <= size:
        return
    near, i = max(smaller)
    if sign(numbers[i]) != sign(numbers[j]):
        numbers[i] = -numbers[i]
        steps.append(("turn", i, i, 1))
    # Both go down by the same even multiple of their small difference, until one is no larger than it.
    gap = size - near
    times = size // gap // 2
    down = 2 * times * gap * sign(numbers[j])
    numbers[i] -= down
    numbers[j] -= down
    steps.append(("pair", i, j, -times))


def last_steps(numbers, j):
    """Return the steps that bring all numbers to 0 or 1, where number j is 1 or -1."""
    steps = [("turn", j, j, 1)] if numbers[j] < 0 else []
    for i, number in enumerate(numbers):
        times = number // 2
        if i != j and times != 0:
            steps.append(("add", i, j, -times))
    return steps


def steps_to_parities(numbers, period):
    """Return the steps after which each number is 0 or 1, as it is even or odd.

    There are at least two numbers. They and the period, which is even, have no common divisor but 1; period may be
    added to a number without a step.
    """
    left = list(numbers)
    steps = []
    while True:
        j = least_position(left)
        if abs(left[j]) == 1:
            return steps + last_steps(left, j)
        if not any([number % left[j] for number in left]):
            # Only the period keeps these numbers from having a common divisor.
            other = 0 if j != 0 else 1
            left[other] += period
        brought_near(left, j, steps)
        halved(left, j, steps)
