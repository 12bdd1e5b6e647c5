"""What the elastic forces of a load can come to in any true structure."""

from math import gcd

from standfast.ratios import ONE, ZERO, greater_one, minus, over, ratio, times
from standfast.roots import MILLION, millionths_above
from standfast.structure.balance import strains_by
from standfast.structure.grid import Grid, here
from standfast.structure.rows import row_at
from standfast.whole import over_common, reduced


class Enclosure:
    """What forces in balance with a load, and own strains, tell of true elastic answers.

    Forces and own strains are integers, with 0 for components that are not there, and what to divide them by.
    Apart is the spread divided by spread_by.
    """

    def __init__(self, grid, present, forces, own):
        self.grid = grid
        self.present = present
        self.forces, self.forces_by = forces
        self.own, self.own_by = own
        self.roots = {}
        # Of the factors times forces minus own strains, this divides numbers that all have in common.
        level = grid.fine * self.forces_by
        shared = gcd(level, self.own_by)
        mine = self.own_by // shared
        its = level // shared
        spread = 0
        for at in present:
            force = self.forces[at] * mine
            strain = self.own[at] * its
            low = grid.lows[at] * force - strain
            high = grid.highs[at] * force - strain
            spread += max(low * low * grid.low_shares[at], high * high * grid.high_shares[at])
        self.spread = spread
        self.spread_by = grid.whole * grid.fine * (self.forces_by * mine) ** 2

    def root_at(self, component):
        """Return in millionths the root from above of apart multiplied by the reach of a component."""
        if component not in self.roots:
            grid = self.grid
            self.roots[component] = millionths_above(self.spread * grid.fine, self.spread_by * grid.lows[component])
        return self.roots[component]

    def rise_of(self, component, sign):
        """Return the rise of a component and a sign: a numerator, and a denominator above 0."""
        own = sign * self.own[component] * self.grid.fine
        bound = self.grid.lows[component] if own > 0 else self.grid.highs[component]
        by = self.own_by * bound
        middle = sign * self.forces[component] * by + own * self.forces_by
        by = by * self.forces_by
        return (middle * MILLION + self.root_at(component) * by, 2 * MILLION * by)

    def bears(self, force):
        """Return True if the forces are in balance with a row of forces."""
        return self.grid.balances(self.present, self.forces, self.forces_by, force)


def enclosure_of(grid, structure, pair, load):
    """Return the Enclosure of a load and a pair for it."""
    present = here(structure)
    forces, movements = pair
    own = own_in_whole(grid, present, movements, load.strain)
    return Enclosure(grid, present, grid.whole_forces(present, forces), own)


def own_in_whole(grid, present, movements, outside):
    """Return own strains as integers and what to divide them by."""
    moved, by = over_common(movements)
    strains = [0] * len(grid.rows)
    for at in present:
        strains[at] = sum([number * moved[place] for place, number in grid.rows[at] if place < len(moved)])
    by *= grid.grain
    if outside:
        given, given_by = over_common([amount for _, amount in outside])
        strains = [strain * given_by for strain in strains]
        for (at, _), amount in zip(outside, given):
            if at in present:
                strains[at] -= amount * by
        by *= given_by
    return reduced(strains, by)


def own_strains(structure, pair, load):
    """Return the own strains of a pair for a load, a tuple, 0 for components that are not there."""
    _, movements = pair
    found = []
    for at, strain in enumerate(strains_by(structure, movements)):
        found.append(minus(strain, row_at(load.strain, at)) if structure.there[at] else ZERO)
    return tuple(found)


def apart(structure, pair, load):
    """Return apart of a pair for a load."""
    answer = enclosure_of(Grid(structure), structure, pair, load)
    return ratio(answer.spread, answer.spread_by)


def reach(structure, component):
    """Return the reach of a component."""
    lower, _ = structure.factors[component]
    return over(ONE, lower)


def rise(structure, component, sign, pair, load):
    """Return the rise of a component and a sign by a pair for a load."""
    n, d = enclosure_of(Grid(structure), structure, pair, load).rise_of(component, sign)
    return ratio(n, d)


def greatest_misfit(bounds, force, own):
    """Return the greater value of factor s s - 2 s e + e e / factor, at two bounds of the factor."""
    lower, upper = bounds
    return greater_one(misfit(lower, force, own), misfit(upper, force, own))


def misfit(factor, force, own):
    """Return factor s s - 2 s e + e e / factor, for the force s and the own strain e."""
    lack = minus(times(factor, force), own)
    return over(times(lack, lack), factor)
