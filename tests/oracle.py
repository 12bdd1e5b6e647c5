"""Slow and plain ways to the same answers, for comparison: Fourier and Motzkin's elimination."""

from fractions import Fraction


def fraction(a):
    return Fraction(a[0], a[1])


def pair(number):
    return (number.numerator, number.denominator)


def inequalities(conditions):
    """Lists (numbers, bound): the sum is at most the bound; an equation gives two of them."""
    found = []
    for numbers, bound, just in conditions:
        row = [fraction(a) for a in numbers]
        found.append((row, fraction(bound)))
        if just:
            found.append(([-a for a in row], -fraction(bound)))
    return found


def without_last(rows):
    """Eliminate the last unknown."""
    kept = [(numbers[:-1], bound) for numbers, bound in rows if numbers[-1] == 0]
    above = [(n, b) for n, b in rows if n[-1] > 0]
    below = [(n, b) for n, b in rows if n[-1] < 0]
    for n, b in above:
        for m, c in below:
            kept.append(([x / n[-1] - y / m[-1] for x, y in zip(n[:-1], m[:-1])], b / n[-1] - c / m[-1]))
    unique = {}
    for numbers, bound in kept:
        factor = next((abs(a) for a in numbers if a != 0), 1)
        key = tuple(a / factor for a in numbers)
        bound = bound / factor
        if key not in unique or bound < unique[key]:
            unique[key] = bound
    return [(list(key), bound) for key, bound in unique.items()]


def interval(rows, unknowns):
    """The least and the greatest value of the first unknown (None for no end), or None if there are none."""
    for _ in range(unknowns - 1):
        rows = without_last(rows)
    low = None
    high = None
    for (number,), bound in rows:
        if number == 0 and bound < 0:
            return None
        if number > 0:
            high = bound / number if high is None else min(high, bound / number)
        if number < 0:
            low = bound / number if low is None else max(low, bound / number)
    if low is not None and high is not None and low > high:
        return None
    return low, high


def with_first(rows, value):
    return [(numbers[1:], bound - numbers[0] * value) for numbers, bound in rows]


def nearest(conditions, unknowns):
    rows = inequalities(conditions)
    values = []
    for left in range(unknowns, 0, -1):
        ends = interval(rows, left)
        if ends is None:
            return None
        low, high = ends
        value = Fraction(0)
        if low is not None and low > 0:
            value = low
        if high is not None and high < 0:
            value = high
        values.append(pair(value))
        rows = with_first(rows, value)
    if any(bound < 0 for _, bound in rows):
        return None
    return tuple(values)
