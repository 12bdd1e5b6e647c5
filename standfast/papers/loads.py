"""What choices of loads pull with."""

from standfast.structure.rows import add_rows


def choice_pulls(structure):
    """Return the row of forces that each choice pulls with, base load included, in the order of the choices."""
    found = [structure.base.force]
    for loads in structure.groups:
        # Many choices pull alike, as settlings have no forces.
        known = {}
        further = []
        for pull in found:
            if pull not in known:
                known[pull] = [pull_with(pull, load) for load in loads]
            further.extend(known[pull])
        found = further
    return found


def distinct_choices(structure):
    """Return the choices in order without those whose loads pull as those of an earlier one do.

    Each one stands beside the row of what its loads, without the base load, pull with.
    """
    found = {(): []}
    for loads in structure.groups:
        further = {}
        for force in found:
            for index, load in enumerate(loads):
                pull = pull_with(force, load)
                if pull not in further:
                    further[pull] = [*found[force], index]
        found = further
    return [(found[force], force) for force in found]


def pull_with(force, load):
    """Return a row of forces with those of a load added."""
    return add_rows([force, load.force]) if load.force else force
