"""Forces that bear loads, loads that nothing bears, and how far loads can be raised."""

from standfast.finding.limits import bearer_of
from standfast.finding.moving import amounts_and_movement
from standfast.papers.falls import choice_load
from standfast.papers.loads import distinct_choices
from standfast.ratios import lesser_one
from standfast.structure.rows import add_rows


def sure_limits(structure):
    """Return the list of what the sides bear for sure."""
    return [side.sure for side in structure.sides]


def most_limits(structure):
    """Return the list of what the sides bear at most."""
    return [side.most for side in structure.sides]


def bearing_forces(structure, choice, limits):
    """Return the forces nearest to nothing that bear a choice within limits of the sides, or None."""
    return bearer_of(structure).nearest_forces(choice_load(structure, choice).force, limits)


def found_fall(structure):
    """Return the fall of the first choice that has one: the choice, a movement and amounts, or None."""
    limits = most_limits(structure)
    bearer = bearer_of(structure)
    for choice, force in distinct_choices(structure):
        pull = add_rows([structure.base.force, force])
        # Just the loads that nothing bears have a fall, and it takes less to see whether they are borne.
        if not bearer.bears(pull, limits):
            movement, amounts = amounts_and_movement(structure, pull, limits)
            return (choice, movement, amounts)
    return None


def raising(structure, limits):
    """Return how far the loads of all groups can be raised: "short", "up to" or "endless", and the ratio or None."""
    bearer = bearer_of(structure)
    if not bearer.bears(structure.base.force, limits):
        return ("short", None)
    base = bearer.statics.borne(structure.base.force)
    found = None
    for _, force in distinct_choices(structure):
        highest = bearer.greatest_times(base, force, limits)
        if highest is not None:
            found = highest if found is None else lesser_one(found, highest)
    return ("endless", None) if found is None else ("up to", found)
