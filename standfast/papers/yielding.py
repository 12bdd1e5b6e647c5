"""Papers that all yielding together ends."""

from standfast.copies import as_tuples
from standfast.elastic.enclosing import Enclosure, greatest_misfit, padded_to, reach
from standfast.ratios import TWO, ZERO, at_most, greatest_of, less, minus, over, plus, times, total, with_sign
from standfast.roots import root_above
from standfast.structure.balance import is_balanced


class YieldPaper:
    """A pair for the base load, a pair for each load of each group, and a margin."""

    def __init__(self, base, pairs, margin):
        self.base = as_tuples(base)
        self.pairs = as_tuples(pairs)
        self.margin = as_tuples(margin)


def pair_at(pairs, group, index):
    """Return the pair of a load, a pair of empty tuples if there is none."""
    if 0 <= group < len(pairs) and 0 <= index < len(pairs[group]):
        return pairs[group][index]
    return ((), ())


def filled(structure, pair):
    """Return the pair with as many forces and movements as the structure has."""
    forces, movements = pair
    padded = padded_to(forces, len(structure.rows))
    kept = [force if is_there else ZERO for force, is_there in zip(padded, structure.there)]
    return (tuple(kept), tuple(padded_to(movements, len(structure.free))))


def yields_end(structure, paper):
    """Return True if the paper holds."""
    if at_most(paper.margin, ZERO) or not is_all_balanced(structure, paper):
        return False
    for side, height in zip(structure.sides, heights(structure, paper, structure.sides)):
        spare = times(paper.margin, structure.scale[side.component])
        if less(side.sure, plus(height, spare)):
            return False
    return True


def is_all_balanced(structure, paper):
    """Return True if the forces of the base and of each pair are in balance with their loads."""
    if not is_pair_balanced(structure, paper.base, structure.base):
        return False
    for group, loads in enumerate(structure.groups):
        for index, load in enumerate(loads):
            if not is_pair_balanced(structure, pair_at(paper.pairs, group, index), load):
                return False
    return True


def is_pair_balanced(structure, pair, load):
    """Return True if the forces of a pair, filled, are in balance with a load."""
    forces, _ = filled(structure, pair)
    return is_balanced(structure, forces, load)


def enclosures(structure, pairs):
    """Return an Enclosure for each load of each group, lists by groups."""
    found = []
    for group, loads in enumerate(structure.groups):
        found.append([enclosure_at(structure, pairs, group, index) for index in range(len(loads))])
    return found


def enclosure_at(structure, pairs, group, index):
    """Return the Enclosure of a load and its pair."""
    pair = filled(structure, pair_at(pairs, group, index))
    return Enclosure(structure, pair, structure.groups[group][index])


def heights(structure, paper, sides):
    """Return for each of some sides what the base and the greatest rise of each group come to."""
    base, _ = filled(structure, paper.base)
    groups = enclosures(structure, paper.pairs)
    found = []
    for side in sides:
        rises = []
        for group in groups:
            rises.append(greatest_of([answer.rise_of(side.component, side.sign) for answer in group]))
        found.append(plus(with_sign(side.sign, base[side.component]), total(rises)))
    return found


def start(structure, paper):
    """Return the start of a paper."""
    base = Enclosure(structure, filled(structure, paper.base), structure.base)
    found = []
    for at, is_there in enumerate(structure.there):
        if is_there:
            owns = [minus(base.own[at], error) for error in structure.errors[at]]
            misfits = [greatest_misfit(structure.factors[at], base.forces[at], own) for own in owns]
            found.append(greatest_of(misfits))
    return total(found)


def yield_of(structure, paper):
    """Return the yield of a paper; its margin is above 0."""
    return over(start(structure, paper), times(TWO, paper.margin))


def is_kept_away(structure, paper, side, amount):
    """Return True if a side that breaks is kept away from with a ratio."""
    return stays_below(structure, side, heights(structure, paper, [side])[0], amount)


def stays_below(structure, side, height, amount):
    """Return True if what a side comes to, with the root of a ratio times its reach, is borne for sure."""
    further = root_above(times(amount, reach(structure, side.component)))
    return at_most(plus(height, further), side.sure)
