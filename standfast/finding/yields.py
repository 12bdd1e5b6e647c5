"""Papers that all yielding ends, and turns, found by the elastic answers to all loads."""

from standfast.elastic.enclosing import enclosure_of
from standfast.elastic.pairs import middle_elastic
from standfast.finding.limits import Bearer
from standfast.finding.moving import amounts_and_movement
from standfast.papers.yielding import Review, Rises, YieldPaper, added
from standfast.programs.nearest import greatest
from standfast.ratios import HALF, ONE, ZERO, at_most, less, minus, plus, ratio, times
from standfast.structure.grid import Grid


class Elastics:
    """The elastic answers of a structure to its base load and to the loads of its groups, None for missing ones."""

    def __init__(self, structure, elastic):
        self.structure = structure
        self.elastic = elastic
        self.base = elastic.answer(structure.base)
        self.groups = [[elastic.answer(load) for load in loads] for loads in structure.groups]

    def is_complete(self):
        """Return True if no load of a group lacks its answer."""
        return all([answer is not None for answers in self.groups for answer in answers])

    def pairs(self):
        """Return the pairs of the loads by groups."""
        return [[answer.pair() for answer in answers] for answers in self.groups]

    def enclosures(self):
        """Return the Enclosures of the loads by groups."""
        return [[answer.enclosure() for answer in answers] for answers in self.groups]


def elastics_of(structure):
    """Return the Elastics of a structure."""
    return Elastics(structure, middle_elastic(Grid(structure), structure))


def all_pairs(structure):
    """Return the pairs of all loads by groups, or None if one is missing."""
    elastics = elastics_of(structure)
    return elastics.pairs() if elastics.is_complete() else None


def found_yield_paper(structure):
    """Return the YieldPaper with half of the greatest margin, or None."""
    review = found_review(elastics_of(structure))
    return None if review is None else review.paper


def found_review(elastics):
    """Return the Review of the found yield paper, or None if there is none."""
    if elastics.base is None or not elastics.is_complete():
        return None
    structure = elastics.structure
    rises = Rises(elastics.enclosures())
    spares = [spare_at(rises, side) for side in structure.sides]
    bearer = Bearer(structure, elastics.elastic.statics)
    margin = found_margin(bearer, spares)
    if margin is None:
        return None
    limits = [minus(spare, times(margin, structure.scale[side.component]))
              for side, spare in zip(structure.sides, spares)]
    forces = bearer.nearest_forces(structure.base.force, limits)
    _, movements = elastics.base.pair()
    paper = YieldPaper((forces, movements), elastics.pairs(), margin)
    base = enclosure_of(elastics.elastic.grid, structure, paper.base, structure.base)
    return Review(structure, paper, base, rises)


def spare_at(rises, side):
    """Return what the greatest rises leave of what a side bears for sure."""
    n, d = rises.greatest(side)
    return minus(side.sure, ratio(n, d))


def found_margin(bearer, spares):
    """Return half of the greatest margin, 1 if there is no greatest one, or None if none above 0 is possible."""
    structure = bearer.structure
    forces, by = bearer.statics.borne(structure.base.force)
    divisor = (bearer.statics.divisor, 1)
    conditions = []
    for side, (ties, spare, _) in zip(structure.sides, bearer.conditions(forces, by, spares)):
        conditions.append(([times(divisor, structure.scale[side.component]), *ties], spare, False))
    found = greatest(conditions, 1 + len(bearer.statics.loose))
    if found is None:
        return ONE
    return None if at_most(found, ZERO) else times(found, HALF)


def found_turns(structure):
    """Return the turns that gain most surely: yields, a movement and pairs, or None."""
    return turns_of(elastics_of(structure))


def turns_of(elastics):
    """Return the found turns by the elastic answers, or None."""
    if elastics.base is None or not elastics.is_complete():
        return None
    structure = elastics.structure
    enclosures = elastics.enclosures()
    hardest = [None if side.breaks else hardest_loads(enclosures, side) for side in structure.sides]
    lacks = [None if found is None else plus(side.most, found[1]) for side, found in zip(structure.sides, hardest)]
    # Just where no forces for the base load keep to the lacks there are turns, and it takes less to see that.
    if Bearer(structure, elastics.elastic.statics).bears(structure.base.force, lacks):
        return None
    movement, amounts = amounts_and_movement(structure, structure.base.force, lacks)
    yields = [(at, hardest[at][0], amount) for at, amount in amounts]
    return (yields, movement, elastics.pairs())


def hardest_loads(enclosures, side):
    """Return the choice of the loads with the least rises against a side, and the sum of these rises."""
    choice = []
    rises = []
    for answers in enclosures:
        found = 0
        against = [answer.rise_of(side.component, -side.sign) for answer in answers]
        for index, rise in enumerate(against):
            if less(rise, against[found]):
                found = index
        choice.append(found)
        rises.append(against[found])
    n, d = added(rises)
    return tuple(choice), ratio(n, d)
