"""Bounds of asked movements."""

from standfast.elastic.enclosing import enclosure_of
from standfast.papers.yielding import added, review_of
from standfast.ratios import greater_one, greatest_of, negative, over, plus, ratio, times, total, with_sign
from standfast.roots import MILLION, millionths_above
from standfast.structure.grid import Grid
from standfast.structure.model import Load


class Unit:
    """Forces in balance with an asked row: what true movements have to do with the answers to loads."""

    def __init__(self, structure, answer):
        self.structure = structure
        self.answer = answer
        grid = answer.grid
        # The sum of (upper bound of the factor) v v is this weight divided by fine and the square of the divisor.
        self.weight = sum([grid.highs[at] * answer.forces[at] ** 2 for at in answer.present])

    def slip_and_wrong(self):
        """Return the slip and wrong of the asked row."""
        slips = []
        wrongs = []
        # Of components that are not there, the errors do not matter any more.
        for at in self.answer.present:
            n, d = greater_one(self.answer.rise_of(at, 1), self.answer.rise_of(at, -1))
            share = ratio(n, d)
            lower, upper = self.structure.errors[at]
            slips.append(over(share, self.structure.scale[at]))
            wrongs.append(times(share, greater_one(upper, negative(lower))))
        return greatest_of(slips), total(wrongs)

    def shifts(self, load, other):
        """Return the shifts of a load, by its Enclosure: by the forces, and by the forces with changed signs.

        They are numerators and denominators above 0, not in lowest terms.
        """
        unit = self.answer
        grid = unit.grid
        above = below = along = 0
        for at in unit.present:
            product = unit.forces[at] * other.forces[at]
            bounds = (grid.highs[at], grid.lows[at]) if product > 0 else (grid.lows[at], grid.highs[at])
            above += bounds[0] * product
            below -= bounds[1] * product
            along += unit.forces[at] * other.own[at]
        by = unit.forces_by
        level = grid.fine * other.forces_by
        root = millionths_above(other.spread * self.weight, other.spread_by * grid.fine * by * by)
        outside = self.outside(load)
        found = []
        for mixed, way in ((above, 1), (below, -1)):
            straight = mixed * other.own_by + way * along * level
            scale = by * level * other.own_by
            half = (straight * MILLION + root * scale, 2 * MILLION * scale)
            found.append(added([half, with_sign(way, outside)]))
        return found

    def outside(self, load):
        """Return the sum of the forces multiplied by the strains from outside of a load."""
        forces = self.answer.forces
        products = total([times((forces[at], 1), strain) for at, strain in load.strain])
        return over(products, (self.answer.forces_by, 1))

    def bounds(self, review, amount):
        """Return the least and the most of the asked movement, if all that yields is at most an amount."""
        slip, wrong = self.slip_and_wrong()
        extra = plus(wrong, times(slip, amount))
        most, least = [plus(extra, shift) for shift in self.shifts(self.structure.base, review.base)]
        for loads, answers in zip(self.structure.groups, review.rises.groups):
            both = [self.shifts(load, answer) for load, answer in zip(loads, answers)]
            most = plus(most, greatest_of([first for first, _ in both]))
            least = plus(least, greatest_of([second for _, second in both]))
        return (negative(least), most)


def unit_load(row):
    """Return the Load of an asked row."""
    return Load(row, ())


def bounds_of(structure, paper, unit, row, amount):
    """Return the pair of the least and the most of an asked movement, if all that yields is at most an amount."""
    grid = Grid(structure)
    answer = enclosure_of(grid, structure, unit, unit_load(row))
    return Unit(structure, answer).bounds(review_of(grid, structure, paper), amount)
