"""Linear equations with as many unknowns as equations."""

from standfast.ratios import ONE, ZERO, minus, over, ratio, times, total
from standfast.whole import in_whole_numbers


def solve(equations):
    """Return the solution as a tuple, or None if there is not exactly one."""
    rows = [in_whole_numbers([*numbers, amount])[0] for numbers, amount in equations]
    aside, loose = put_aside(rows)
    if loose is not None:
        return None
    values = [ZERO] * len(equations)
    follow(aside, values)
    return tuple(values)


def loose_values(equations):
    """Return values, not all 0, with which all left sides are 0, or None if there are none."""
    rows = [in_whole_numbers([*numbers, ZERO])[0] for numbers, _ in equations]
    aside, loose = put_aside(rows)
    if loose is None:
        return None
    values = [ZERO] * len(equations)
    values[loose] = ONE
    follow(aside, values)
    return tuple(values)


def dot(first, second):
    """Return the sum of the products of two tuples of ratios."""
    return total([times(a, b) for a, b in zip(first, second)])


def put_aside(rows):
    """Eliminate one unknown after another; return the rows that were used, and the first loose unknown or None."""
    left = rows
    aside = []
    divisor = 1
    for place in range(len(rows)):
        at = first_with(left, place)
        if at is None:
            return aside, place
        chosen = left[at]
        others = left[:at] + left[at + 1:]
        left = [without_place(row, chosen, place, divisor) for row in others]
        aside.append(chosen)
        divisor = chosen[place]
    return aside, None


def first_with(rows, place):
    """Return the index of the first row that is not 0 at a place, or None."""
    for at, row in enumerate(rows):
        if row[place] != 0:
            return at
    return None


def without_place(row, chosen, place, divisor):
    """Return a row with a multiple of the chosen one added so that it becomes 0 at a place."""
    # All numbers are determinants of the first rows here, so the last number used divides them exactly.
    mine = row[place]
    its = chosen[place]
    return [(its * a - mine * b) // divisor for a, b in zip(row, chosen)]


def follow(aside, values):
    """Set the values of the unknowns of the rows put aside, the last one first."""
    for place in reversed(range(len(aside))):
        row = aside[place]
        amount = ratio(row[-1])
        for later in range(place + 1, len(values)):
            amount = minus(amount, times(ratio(row[later]), values[later]))
        values[place] = over(amount, ratio(row[place]))
