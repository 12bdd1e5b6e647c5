"""The forces and movements of the next moment of a trial."""

from standfast.elastic.answers import Elastic
from standfast.programs.nearest import nearest
from standfast.programs.unknowns import row_numbers
from standfast.ratios import ONE, ZERO, at_most, minus, negative, plus, ratio, times, with_sign
from standfast.structure.grid import Grid, here, idle_places
from standfast.structure.model import Load
from standfast.trials.complements import Complements
from standfast.whole import over_common


def next_forces(structure, factors, limits, slack, load):
    """Return the forces of the next moment, or None if there are none."""
    grid = Grid(structure)
    whole_factors, by = over_common(factors)
    elastic = Elastic(grid, structure, (whole_factors, by))
    strains = [(at, amount) for at, amount in enumerate(slack) if amount != ZERO]
    answer = elastic.answer(Load(load.force, strains))
    if answer is None:
        return None
    limited = [(side, limit) for side, limit in zip(structure.sides, limits) if limit is not None]
    return within(elastic, answer, limited)


def within(elastic, answer, limited):
    """Return the forces nearest to those of an answer, by what they cost, at which no side is beyond its limit.

    The limits stand beside their sides. Returns None if there are no such forces.
    """
    statics = elastic.statics
    spares = [minus(limit, ratio(side.sign * answer.forces[side.component], answer.by)) for side, limit in limited]
    forces = [ratio(force, answer.by) for force in answer.forces]
    if all([at_most(ZERO, spare) for spare in spares]):
        return tuple(forces)
    # Each side that would be beyond its limit yields by a price; the prices move the forces of the loose components.
    ties = [[side.sign * own[side.component] for own in statics.ties] for side, _ in limited]
    moves = [[sum([number * a for number, a in zip(row, tie)]) for row in elastic.inverse] for tie in ties]
    amounts, level = over_common(spares)
    rows = []
    for tie, amount in zip(ties, amounts):
        rows.append([*[sum([a * b for a, b in zip(tie, move)]) for move in moves], amount])
    complements = Complements(rows)
    if not complements.settle():
        return None
    by = complements.divisor * level
    for column, tie in enumerate(statics.ties):
        moved = -sum([complements.price(at) * move[column] for at, move in enumerate(moves)])
        forces = [plus(force, ratio(number * moved, by)) for force, number in zip(forces, tie)]
    return tuple(forces)


def next_movements(structure, factors, limits, slack, forces):
    """Return the movements of the next moment, those nearest to nothing that fit, or None if none fit."""
    many = len(structure.free)
    conditions = []
    for place in idle_places(structure):
        conditions.append((row_numbers(many, ((place, ONE),)), ZERO, True))
    reached = reached_sides(structure, limits, forces)
    for at in here(structure):
        strain = plus(times(factors[at], forces[at]), slack[at])
        numbers = row_numbers(many, structure.rows[at])
        # Where the sides of both signs have reached their limits, the strain is at least and at most this.
        if ((at, 1) in reached) == ((at, -1) in reached):
            conditions.append((numbers, strain, True))
        elif (at, 1) in reached:
            conditions.append((tuple([negative(number) for number in numbers]), negative(strain), False))
        else:
            conditions.append((numbers, strain, False))
    return nearest(conditions, many)


def reached_sides(structure, limits, forces):
    """Return a dict whose keys are the component and the sign of each side that has reached its limit."""
    found = {}
    for side, limit in zip(structure.sides, limits):
        if limit is not None and at_most(limit, with_sign(side.sign, forces[side.component])):
            found[(side.component, side.sign)] = True
    return found
