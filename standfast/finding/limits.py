"""Forces in balance with loads, within limits of the sides."""

from standfast.programs.conditions import least
from standfast.programs.nearest import greatest, nearest
from standfast.programs.projection import can_be_met
from standfast.ratios import ONE, ZERO, at_most, minus, plus, ratio, times
from standfast.structure.grid import Grid
from standfast.structure.statics import Statics


class Bearer:
    """A structure whose forces are to be within limits of its sides; a side without a limit has None.

    The unknowns are the forces of the loose components.
    """

    def __init__(self, structure, statics):
        self.structure = structure
        self.statics = statics

    def spare(self, side, limit, forces, by):
        """Return what forces leave of a limit at a side."""
        return minus(limit, ratio(side.sign * forces[side.component], by))

    def side_ties(self, side):
        """Return by what the loose forces, once the divisor, add to what a side bears, times the divisor."""
        return [(side.sign * tie[side.component], 1) for tie in self.statics.ties]

    def conditions(self, forces, by, limits):
        """Return the conditions that forces, with what loose ones add, are within limits of the sides."""
        divisor = (self.statics.divisor, 1)
        found = []
        for side, limit in zip(self.structure.sides, limits):
            if limit is not None:
                spare = self.spare(side, limit, forces, by)
                found.append((self.side_ties(side), times(divisor, spare), False))
        return found

    def are_within(self, forces, by, limits):
        """Return True if forces are within limits of the sides."""
        return all([at_most((side.sign * forces[side.component], by), limit)
                    for side, limit in zip(self.structure.sides, limits) if limit is not None])

    def bears(self, force, limits):
        """Return True if forces within the limits are in balance with a row of forces."""
        borne = self.statics.borne(force)
        if borne is None:
            return False
        forces, by = borne
        if self.are_within(forces, by, limits):
            return True
        many = len(self.statics.loose)
        return many > 0 and can_be_met(self.conditions(forces, by, limits), many)

    def nearest_forces(self, force, limits):
        """Return the forces nearest to nothing within the limits that bear a row of forces, or None."""
        borne = self.statics.borne(force)
        if borne is None:
            return None
        forces, by = borne
        values = ()
        if self.statics.loose:
            values = nearest(self.conditions(forces, by, limits), len(self.statics.loose))
        elif not self.are_within(forces, by, limits):
            return None
        return None if values is None else self.with_loose(forces, by, values)

    def with_loose(self, forces, by, values):
        """Return forces as ratios with what the loose ones add, by their values."""
        found = [ratio(force, by) for force in forces]
        for tie, (n, d) in zip(self.statics.ties, values):
            if n != 0:
                found = [plus(a, ratio(number * n, self.statics.divisor * d)) for a, number in zip(found, tie)]
        return tuple(found)

    def greatest_times(self, base, force, limits):
        """Return by what a row of forces can at most be multiplied, at least 0, to be borne with forces for a base.

        Each side has a limit. Returns None if there is no greatest number. With 0 it is borne.
        """
        borne = self.statics.borne(force)
        if borne is None:
            return ZERO
        forces, by = borne
        steady, steady_by = base
        rises = []
        divisor = self.statics.divisor
        for side, (ties, spare, _) in zip(self.structure.sides, self.conditions(steady, steady_by, limits)):
            rises.append(([ratio(divisor * side.sign * forces[side.component], by), *ties], spare, False))
        many = len(self.statics.loose)
        return greatest([*rises, least([ONE, *[ZERO] * many], ZERO)], 1 + many)


def bearer_of(structure):
    """Return the Bearer of a structure."""
    return Bearer(structure, Statics(Grid(structure), structure))
