"""Elastic answers of one structure to many loads."""

from standfast.elastic.enclosing import Enclosure
from standfast.ratios import ZERO, ratio
from standfast.structure.grid import idle_places
from standfast.structure.statics import Statics
from standfast.whole import over_common, reduced


class Elastic:
    """What the answers to all loads have in common, if all factors are given numbers and nothing yields.

    The factors are integers for all components, and what to divide them by. The forces that are in balance
    with a load follow from those of the loose components; these ones follow from the strains.
    """

    def __init__(self, grid, structure, factors):
        self.grid = grid
        self.factors, self.factors_by = factors
        self.statics = Statics(grid, structure)
        self.idle = idle_places(structure)
        self.is_loose = len(self.statics.gaps) > len(self.idle)
        ties = self.statics.ties
        stiff = [[self.factors[at] * tie[at] for at in range(len(tie))] for tie in ties]
        square = [[sum([a * b for a, b in zip(first, second)]) for second in ties] for first in stiff]
        self.inverse, self.inverse_by = inverse_of(square)

    def answer(self, load):
        """Return the Answer to a load, or None if there is none."""
        if self.is_loose or any([place in self.idle for place, _ in load.force]):
            return None
        forces, by = self.statics.borne(load.force)
        outside, outside_by = over_common([amount for _, amount in load.strain])
        strains = [0] * len(forces)
        for (at, _), amount in zip(load.strain, outside):
            strains[at] = amount
        if self.statics.ties:
            forces, by = self.with_loose(forces, by, strains, outside_by)
        return Answer(self, load, reduced(forces, by), (strains, outside_by))

    def with_loose(self, forces, by, strains, strains_by):
        """Return the forces with those of the loose components that fit the strains."""
        # The strains that the forces make, and those from outside, must add up to 0 along each tie.
        mine = [factor * force * strains_by for factor, force in zip(self.factors, forces)]
        scale = self.factors_by * by
        sums = [a + strain * scale for a, strain in zip(mine, strains)]
        ties = self.statics.ties
        lacks = [-sum([tie[component] * sums[component] for component in self.statics.present]) for tie in ties]
        found = [force * self.inverse_by * strains_by for force in forces]
        for row, tie in zip(self.inverse, ties):
            loose = sum([a * lack for a, lack in zip(row, lacks)])
            for at in self.statics.present:
                found[at] += tie[at] * loose
        return found, by * self.inverse_by * strains_by

    def movements(self, forces, outside):
        """Return the movements that forces and strains from outside, with their divisors, make."""
        forces, by = forces
        outside, outside_by = outside
        statics = self.statics
        level = self.factors_by * by
        moved = [0] * statics.places
        for at in statics.gives:
            strain = self.factors[at] * forces[at] * outside_by + outside[at] * level
            if strain != 0:
                row = statics.gives[at]
                for place in range(statics.places):
                    moved[place] += row[place] * strain
        scale = level * outside_by * statics.divisor
        return tuple([ZERO if place in self.idle else ratio(self.grid.grain * number, scale)
                      for place, number in enumerate(moved)])


class Answer:
    """The forces of an elastic answer to a load, as integers and their divisor."""

    def __init__(self, elastic, load, forces, outside):
        self.elastic = elastic
        self.load = load
        self.forces, self.by = forces
        self.outside = outside

    def pair(self):
        """Return forces and movements as ratios."""
        movements = self.elastic.movements((self.forces, self.by), self.outside)
        return (tuple([ratio(force, self.by) for force in self.forces]), movements)

    def enclosure(self):
        """Return the Enclosure of the pair and its load."""
        elastic = self.elastic
        own = [factor * force for factor, force in zip(elastic.factors, self.forces)]
        return Enclosure(elastic.grid, elastic.statics.present, (self.forces, self.by),
                         (own, elastic.factors_by * self.by))


def middle_factors(grid):
    """Return the middles of all factors, as integers and their divisor."""
    return [low + high for low, high in zip(grid.lows, grid.highs)], 2 * grid.fine


def inverse_of(square):
    """Return the inverse of a positive definite table of integers, as integers and their divisor."""
    many = len(square)
    rows = [[*row, *[1 if at == place else 0 for at in range(many)]] for place, row in enumerate(square)]
    divisor = 1
    for place in range(many):
        its = rows[place]
        pivot = its[place]
        rows = [its if at == place else [(pivot * a - row[place] * b) // divisor for a, b in zip(row, its)]
                for at, row in enumerate(rows)]
        divisor = pivot
    return [row[many:] for row in rows], divisor
