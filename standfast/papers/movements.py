"""Bounds of asked movements."""

from standfast.elastic.enclosing import Enclosure
from standfast.papers.yielding import enclosures, filled
from standfast.ratios import HALF, ZERO, greater_one, greatest_of, negative, over, plus, times, total
from standfast.roots import root_above
from standfast.structure.model import Load
from standfast.structure.rows import row_dot


def unit_load(row):
    """Return the Load of an asked row."""
    return Load(row, ())


def bounds_of(structure, paper, unit, row, amount):
    """Return the pair of the least and the most of an asked movement, if all that yields is at most an amount."""
    pair = filled(structure, unit)
    forces, _ = pair
    base = Enclosure(structure, filled(structure, paper.base), structure.base)
    groups = enclosures(structure, paper.pairs)
    slip, wrong = slip_and_wrong(structure, Enclosure(structure, pair, unit_load(row)))
    extra = plus(wrong, times(slip, amount))
    opposite = tuple([negative(force) for force in forces])
    most = plus(shift_of_all(structure, forces, base, groups), extra)
    least = plus(shift_of_all(structure, opposite, base, groups), extra)
    return (negative(least), most)


def slip_and_wrong(structure, unit):
    """Return the slip and wrong of an asked row, by the Enclosure of its unit pair."""
    slips = []
    wrongs = []
    # Of components that are not there, the errors do not matter any more.
    for at, is_there in enumerate(structure.there):
        if is_there:
            share = greater_one(unit.rise_of(at, 1), unit.rise_of(at, -1))
            lower, upper = structure.errors[at]
            slips.append(over(share, structure.scale[at]))
            wrongs.append(times(share, greater_one(upper, negative(lower))))
    return greatest_of(slips), total(wrongs)


def shift_of_all(structure, forces, base, groups):
    """Return the shift of the base load plus the greatest shift of a load of each group."""
    found = shift(structure, forces, base)
    for group in groups:
        found = plus(found, greatest_of([shift(structure, forces, answer) for answer in group]))
    return found


def shift(structure, forces, answer):
    """Return the shift by forces of a load and its pair, by their Enclosure."""
    added = ZERO
    weight = ZERO
    for at, is_there in enumerate(structure.there):
        if is_there:
            lower, upper = structure.factors[at]
            product = times(forces[at], answer.forces[at])
            added = plus(added, greater_one(times(lower, product), times(upper, product)))
            added = plus(added, times(forces[at], answer.own[at]))
            weight = plus(weight, times(upper, times(forces[at], forces[at])))
    root = root_above(times(answer.spread, weight))
    return plus(times(plus(added, root), HALF), row_dot(answer.load.strain, forces))
