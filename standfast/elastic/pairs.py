"""The answer of a structure to a load if all factors are their middles and nothing has yielded."""

from standfast.linear.equations import loose_values, solve
from standfast.ratios import HALF, ONE, ZERO, minus, over, plus, times
from standfast.structure.balance import strains_by
from standfast.structure.model import Load
from standfast.structure.rows import add_rows, row_at, times_row


def is_idle(structure, place):
    """Return True if a component that is not there has a number at a free movement, and none that is there has one."""
    touching = [at for at, row in enumerate(structure.rows) if row_at(row, place) != ZERO]
    return len(touching) > 0 and not any([structure.there[at] for at in touching])


def pair_of(structure, load):
    """Return the pair of a load, or None if there is none."""
    if any([is_idle(structure, place) for place, _ in load.force]):
        return None
    movements = solve(balance_equations(structure, load))
    if movements is None:
        return None
    strains = strains_by(structure, movements)
    forces = []
    for at, is_there in enumerate(structure.there):
        own = minus(strains[at], row_at(load.strain, at))
        forces.append(over(own, middle_factor(structure, at)) if is_there else ZERO)
    return (tuple(forces), movements)


def loose_movements(structure):
    """Return the loose movements, or None if the structure is not loose."""
    return loose_values(balance_equations(structure, Load((), ())))


def middle_factor(structure, component):
    """Return the middle of a component's factor."""
    lower, upper = structure.factors[component]
    return times(plus(lower, upper), HALF)


def balance_equations(structure, load):
    """Return the equations for the movements of a load's pair, one for each free movement."""
    return [balance_equation(structure, load, place) for place in range(len(structure.free))]


def balance_equation(structure, load, place):
    """Return the equation of the balance at a free movement, or that it is 0 if it is idle."""
    if is_idle(structure, place):
        return (numbers_of(structure, ((place, ONE),)), ZERO)
    rows = []
    amount = row_at(load.force, place)
    for at, row in enumerate(structure.rows):
        mine = row_at(row, place)
        if structure.there[at] and mine != ZERO:
            weight = over(mine, middle_factor(structure, at))
            rows.append(times_row(row, weight))
            amount = plus(amount, times(weight, row_at(load.strain, at)))
    return (numbers_of(structure, add_rows(rows)), amount)


def numbers_of(structure, row):
    """Return a row as a tuple with a ratio for each free movement."""
    return tuple([row_at(row, place) for place in range(len(structure.free))])
