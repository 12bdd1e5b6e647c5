"""What the elastic forces of a load can come to in any true structure."""

from standfast.ratios import HALF, ONE, TWO, ZERO, greater_one, minus, over, plus, times, total, with_sign
from standfast.roots import root_above
from standfast.structure.balance import strains_by
from standfast.structure.rows import row_at


class Enclosure:
    """A load with a pair for it: the pair's forces, its own strains, and apart."""

    def __init__(self, structure, pair, load):
        forces, _ = pair
        self.structure = structure
        self.load = load
        self.forces = padded_to(forces, len(structure.rows))
        self.own = own_strains(structure, pair, load)
        self.spread = total([self.spread_at(at) for at, is_there in enumerate(structure.there) if is_there])

    def spread_at(self, component):
        """Return what a component that is there adds to apart."""
        return greatest_misfit(self.structure.factors[component], self.forces[component], self.own[component])

    def middle_of(self, component, sign):
        """Return the middle of a side."""
        lower, upper = self.structure.factors[component]
        own = with_sign(sign, self.own[component])
        return plus(with_sign(sign, self.forces[component]), greater_one(over(own, lower), over(own, upper)))

    def rise_of(self, component, sign):
        """Return the rise of a component and a sign."""
        root = root_above(times(self.spread, reach(self.structure, component)))
        return times(plus(self.middle_of(component, sign), root), HALF)


def padded_to(values, many):
    """Return the first values as a list, with 0 for those that are missing."""
    return [values[at] if at < len(values) else ZERO for at in range(many)]


def own_strains(structure, pair, load):
    """Return the own strains of a pair for a load, a tuple, 0 for components that are not there."""
    _, movements = pair
    found = []
    for at, strain in enumerate(strains_by(structure, movements)):
        found.append(minus(strain, row_at(load.strain, at)) if structure.there[at] else ZERO)
    return tuple(found)


def apart(structure, pair, load):
    """Return apart of a pair for a load."""
    return Enclosure(structure, pair, load).spread


def reach(structure, component):
    """Return the reach of a component."""
    lower, _ = structure.factors[component]
    return over(ONE, lower)


def rise(structure, component, sign, pair, load):
    """Return the rise of a component and a sign by a pair for a load."""
    return Enclosure(structure, pair, load).rise_of(component, sign)


def greatest_misfit(bounds, force, own):
    """Return the greater value of factor s s - 2 s e + e e / factor, at two bounds of the factor."""
    lower, upper = bounds
    return greater_one(misfit(lower, force, own), misfit(upper, force, own))


def misfit(factor, force, own):
    """Return factor s s - 2 s e + e e / factor, for the force s and the own strain e."""
    crossed = times(TWO, times(force, own))
    return plus(minus(times(factor, times(force, force)), crossed), over(times(own, own), factor))
