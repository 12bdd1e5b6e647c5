"""Rows and factors of a structure in whole numbers."""

from math import lcm

from standfast.whole import over_common


class Grid:
    """Rows multiplied by the grain, and bounds of factors multiplied by what is called fine.

    They are the same for what is left of the structure after losses. The shares are what the bounds, as
    integers, have to be multiplied by to become the whole.
    """

    def __init__(self, structure):
        grain = 1
        for row in structure.rows:
            for _, amount in row:
                grain = lcm(grain, amount[1])
        self.grain = grain
        self.rows = [[(place, n * (grain // d)) for place, (n, d) in row] for row in structure.rows]
        bounds, self.fine = over_common([bound for pair in structure.factors for bound in pair])
        self.lows = bounds[::2]
        self.highs = bounds[1::2]
        whole = 1
        for bound in bounds:
            whole = lcm(whole, bound)
        self.whole = whole
        self.low_shares = [whole // bound for bound in self.lows]
        self.high_shares = [whole // bound for bound in self.highs]

    def whole_forces(self, present, forces):
        """Return forces as integers and their divisor, with 0 for those that are missing or not present."""
        given, by = over_common(forces)
        found = [0] * len(self.rows)
        for at in present:
            if at < len(given):
                found[at] = given[at]
        return found, by

    def balances(self, present, forces, by, pull):
        """Return True if forces, integers and their divisor, are in balance with a row of forces."""
        added = {}
        for at in present:
            mine = forces[at]
            if mine != 0:
                for place, number in self.rows[at]:
                    added[place] = added.get(place, 0) + number * mine
        level = self.grain * by
        for place, (n, d) in pull:
            if added.pop(place, 0) * d != n * level:
                return False
        return not any(list(added.values()))


def here(structure):
    """Return the list of the components that are there."""
    return [at for at, is_there in enumerate(structure.there) if is_there]


def idle_places(structure):
    """Return a dict whose keys are the idle movements, in order."""
    touched = {}
    for row, is_there in zip(structure.rows, structure.there):
        for place, _ in row:
            touched[place] = is_there or touched.get(place, False)
    return {place: True for place in sorted(touched) if not touched[place]}
