"""Numbers of unknowns, most of them 0."""

from standfast.ratios import ZERO


def numbers_at(many, numbers):
    """Return as many numbers as told, with those of a dict at their places and 0 elsewhere."""
    found = [ZERO] * many
    for place in numbers:
        found[place] = numbers[place]
    return tuple(found)


def row_numbers(many, row):
    """Return as many numbers as told, with those of a row at their places and 0 elsewhere."""
    found = [ZERO] * many
    for place, amount in row:
        found[place] = amount
    return tuple(found)


def not_below_zero(many, column):
    """Return the condition that an unknown is at least 0."""
    return (numbers_at(many, {column: (-1, 1)}), ZERO, False)
