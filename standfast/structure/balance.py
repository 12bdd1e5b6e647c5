"""What forces add up to, and what movements strain."""

from standfast.ratios import ZERO
from standfast.structure.rows import add_rows, row_at, row_dot, times_row


def forces_on(structure, forces):
    """Return for each free movement what the forces of the components that are there add up to."""
    added = row_of_forces(structure, forces)
    return tuple([row_at(added, place) for place in range(len(structure.free))])


def is_balanced(structure, forces, load):
    """Return True if the forces add up to those of a load."""
    return row_of_forces(structure, forces) == load.force


def strains_by(structure, movements):
    """Return the strain of each component by movements, 0 for components that are not there."""
    found = []
    for row, is_there in zip(structure.rows, structure.there):
        found.append(row_dot(row, movements) if is_there else ZERO)
    return tuple(found)


def row_of_forces(structure, forces):
    """Return the row of what the forces of the components that are there add up to."""
    pulls = []
    for row, force, is_there in zip(structure.rows, forces, structure.there):
        if is_there:
            pulls.append(times_row(row, force))
    return add_rows(pulls)
