"""The answer of a structure to a load if all factors are their middles and nothing has yielded."""

from standfast.elastic.answers import Elastic, middle_factors
from standfast.linear.equations import loose_values
from standfast.programs.unknowns import row_numbers
from standfast.ratios import HALF, ONE, ZERO, over, plus, times
from standfast.structure.grid import Grid, idle_places
from standfast.structure.rows import add_rows, row_at, times_row


def is_idle(structure, place):
    """Return True if a component that is not there has a number at a free movement, and none that is there has one."""
    return place in idle_places(structure)


def middle_elastic(grid, structure):
    """Return the Elastic of a structure with middle factors."""
    return Elastic(grid, structure, middle_factors(grid))


def pair_of(structure, load):
    """Return the pair of a load, or None if there is none."""
    answer = middle_elastic(Grid(structure), structure).answer(load)
    return None if answer is None else answer.pair()


def loose_movements(structure):
    """Return the loose movements, or None if the structure is not loose."""
    idle = idle_places(structure)
    return loose_values([stiffness_equation(structure, idle, place) for place in range(len(structure.free))])


def middle_factor(structure, component):
    """Return the middle of a component's factor."""
    lower, upper = structure.factors[component]
    return times(plus(lower, upper), HALF)


def stiffness_equation(structure, idle, place):
    """Return the equation for no load of the balance at a free movement, or that it is 0 if it is idle."""
    if place in idle:
        return (row_numbers(len(structure.free), ((place, ONE),)), ZERO)
    rows = []
    for at, row in enumerate(structure.rows):
        mine = row_at(row, place)
        if structure.there[at] and mine != ZERO:
            rows.append(times_row(row, over(mine, middle_factor(structure, at))))
    return (row_numbers(len(structure.free), add_rows(rows)), ZERO)
