"""Factors narrowed by a measurement of the work that a load does along the movement that it makes."""

from standfast.elastic.answers import Elastic
from standfast.ratios import ZERO, at_most, greater_one, less, lesser_one, minus, over, ratio, times, total
from standfast.structure.grid import Grid


def narrowed(structure, load, low, high):
    """Return the narrowed bounds of all components, and True if the measurement is impossible; or None."""
    if at_most(high, ZERO):
        return None
    grid = Grid(structure)
    stiffest = forces_with(grid, structure, load, grid.lows)
    softest = forces_with(grid, structure, load, grid.highs)
    if stiffest is None or softest is None:
        return None
    lowers = [lower for lower, _ in structure.factors]
    uppers = [upper for _, upper in structure.factors]
    new_uppers = narrowed_uppers(lowers, uppers, stiffest, high)
    new_lowers = narrowed_lowers(lowers, uppers, softest, low)
    bounds = list(zip(new_lowers, new_uppers))
    return bounds, any([less(upper, lower) for lower, upper in bounds])


def forces_with(grid, structure, load, factors):
    """Return the elastic forces of a load with given factors (times what the grid calls fine), or None."""
    answer = Elastic(grid, structure, (factors, grid.fine)).answer(load)
    return None if answer is None else [ratio(force, answer.by) for force in answer.forces]


def works_of(factors, forces):
    """Return for each component its factor multiplied by the square of its force."""
    return [times(factor, times(force, force)) for factor, force in zip(factors, forces)]


def narrowed_uppers(lowers, uppers, forces, high):
    """Return the new upper bounds, by the forces with the least factors."""
    # Here strains are factors times forces, so that e e / (lower bound) is (lower bound) times the squared force;
    # and the work along the movements is what all of these add up to.
    works = works_of(lowers, forces)
    added = total(works)
    least_work = over(times(added, added), high)
    found = []
    for lower, upper, work in zip(lowers, uppers, works):
        rest = minus(least_work, minus(added, work))
        if less(ZERO, rest):
            upper = lesser_one(over(times(lower, work), rest), upper)
        found.append(upper)
    return found


def narrowed_lowers(lowers, uppers, forces, low):
    """Return the new lower bounds, by the forces with the greatest factors."""
    works = works_of(uppers, forces)
    added = total(works)
    found = []
    for lower, force, work in zip(lowers, forces, works):
        if force != ZERO:
            rest = minus(low, minus(added, work))
            lower = greater_one(over(rest, times(force, force)), lower)
        found.append(lower)
    return found
