"""Choices of loads that pull differently."""

from standfast.structure.rows import add_rows


def distinct_choices(structure):
    """Return the choices in order without those whose loads pull as those of an earlier one do.

    Each one stands beside the row of what its loads, without the base load, pull with.
    """
    found = {(): []}
    for loads in structure.groups:
        further = {}
        for force in found:
            for index, load in enumerate(loads):
                pull = add_rows([force, load.force]) if load.force else force
                if pull not in further:
                    further[pull] = [*found[force], index]
        found = further
    return [(found[force], force) for force in found]
