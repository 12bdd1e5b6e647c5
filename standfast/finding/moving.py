"""Movements along which a load works more than the sides take."""

from standfast.programs.conditions import least
from standfast.programs.nearest import nearest
from standfast.programs.unknowns import not_below_zero, numbers_at
from standfast.ratios import ONE, ZERO, negative
from standfast.structure.grid import here


def amounts_and_movement(structure, force, prices):
    """Return a movement and the amounts of sides that agree with it, as lists of entries, or None.

    The work of a row of forces, minus the amounts multiplied by the prices of the sides, is at least 1. A side
    whose price is None has the amount 0. Of all such values those nearest to nothing are taken.
    """
    sides = [at for at, price in enumerate(prices) if price is not None]
    places = len(structure.free)
    conditions = agreeing(structure, sides) + [least(work_numbers(places, force, sides, prices), ONE)]
    many = places + len(sides)
    conditions.extend([not_below_zero(many, column) for column in range(places, many)])
    values = nearest(conditions, many)
    if values is None:
        return None
    movement = [(place, value) for place, value in enumerate(values[:places]) if value != ZERO]
    return movement, [(at, value) for at, value in zip(sides, values[places:]) if value != ZERO]


def agreeing(structure, sides):
    """Return the conditions that amounts of sides make up the strains by a movement."""
    places = len(structure.free)
    found = []
    for component in here(structure):
        numbers = {place: negative(amount) for place, amount in structure.rows[component]}
        for column, at in enumerate(sides):
            side = structure.sides[at]
            if side.component == component:
                numbers[places + column] = (side.sign, 1)
        found.append((numbers_at(places + len(sides), numbers), ZERO, True))
    return found


def work_numbers(places, force, sides, prices):
    """Return the numbers of the work of a row of forces minus the prices of the amounts of sides."""
    numbers = {place: amount for place, amount in force}
    for column, at in enumerate(sides):
        numbers[places + column] = negative(prices[at])
    return numbers_at(places + len(sides), numbers)
