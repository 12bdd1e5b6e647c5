"""Rows: ratios at places, in ascending order of places, without those that are 0."""

from standfast.ratios import ZERO, plus, times, total


def make_row(amounts):
    """Return the row of a dict from places to ratios."""
    return tuple([(place, amounts[place]) for place in sorted(amounts) if amounts[place] != ZERO])


def row_at(row, place):
    """Return the ratio of a row at a place."""
    for other, amount in row:
        if other == place:
            return amount
    return ZERO


def row_dot(row, values):
    """Return the sum of the numbers of a row multiplied by the values at their places."""
    return total([times(amount, values[place]) for place, amount in row if place < len(values)])


def add_rows(rows):
    """Return the sum of a list of rows."""
    amounts = {}
    for row in rows:
        for place, amount in row:
            amounts[place] = plus(amounts.get(place, ZERO), amount)
    return make_row(amounts)


def times_row(row, amount):
    """Return a row multiplied by a ratio."""
    return make_row({place: times(own, amount) for place, own in row})
