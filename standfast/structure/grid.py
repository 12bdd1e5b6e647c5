"""Rows and factors of a structure in whole numbers."""

from math import lcm

from standfast.whole import over_common


class Grid:
    """Rows multiplied by the grain, and bounds of factors multiplied by what is called fine.

    They are the same for what is left of the structure after losses. The shares are what the bounds, as
    integers, have to be multiplied by to become the whole.
    """

    def __init__(self, structure):
        grain = 1
        for row in structure.rows:
            for _, amount in row:
                grain = lcm(grain, amount[1])
        self.grain = grain
        self.rows = [[(place, n * (grain // d)) for place, (n, d) in row] for row in structure.rows]
        bounds, self.fine = over_common([bound for pair in structure.factors for bound in pair])
        self.lows = bounds[::2]
        self.highs = bounds[1::2]
        whole = 1
        for bound in bounds:
            whole = lcm(whole, bound)
        self.whole = whole
        self.low_shares = [whole // bound for bound in self.lows]
        self.high_shares = [whole // bound for bound in self.highs]


def here(structure):
    """Return the list of the components that are there."""
    return [at for at, is_there in enumerate(structure.there) if is_there]


def idle_places(structure):
    """Return a dict whose keys are the idle movements, in order."""
    touched = {}
    for row, is_there in zip(structure.rows, structure.there):
        for place, _ in row:
            touched[place] = is_there or touched.get(place, False)
    return {place: True for place in sorted(touched) if not touched[place]}
