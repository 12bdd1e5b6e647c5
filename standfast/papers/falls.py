"""Papers that some loads are borne by nothing."""

from standfast.ratios import ZERO, less, plus, times, total, with_sign
from standfast.structure.balance import strains_by
from standfast.structure.model import add_loads
from standfast.structure.rows import row_at


def is_choice(structure, choice):
    """Return True if a list is a choice: the index of one load for each group."""
    if len(choice) != len(structure.groups):
        return False
    return all([0 <= index < len(loads) for index, loads in zip(choice, structure.groups)])


def choice_load(structure, choice):
    """Return the Load of a choice: the base load and the chosen loads."""
    return add_loads([structure.base, *[loads[index] for index, loads in zip(choice, structure.groups)]])


def work(load, movement):
    """Return the work of a load along a movement."""
    return total([times(row_at(load.force, place), amount) for place, amount in movement])


def falls(structure, choice, movement, amounts):
    """Return True if the fall holds."""
    if not is_choice(structure, choice) or not are_amounts(structure, amounts):
        return False
    if not is_agreed(structure, movement, amounts):
        return False
    borne = total([times(structure.sides[at].most, amount) for at, amount in amounts])
    return less(borne, work(choice_load(structure, choice), movement))


def are_amounts(structure, amounts):
    """Return True if all sides are sides of the structure, and the sum for each of them is at least 0."""
    if not all([is_side(structure, at) for at, _ in amounts]):
        return False
    return not any([less(added, ZERO) for added in list(added_up(amounts).values())])


def is_side(structure, at):
    """Return True if an index is that of a side."""
    return 0 <= at < len(structure.sides)


def added_up(entries):
    """Return the sums of the ratios at each place."""
    found = {}
    for place, amount in entries:
        found[place] = plus(found.get(place, ZERO), amount)
    return found


def is_agreed(structure, movement, amounts):
    """Return True if at each component that is there the sides' amounts make up the strain by the movement."""
    # Amounts of sides tell how much a component becomes longer: those of the side with the sign -1, shorter.
    longer = added_up([signed_entry(structure.sides[at], amount) for at, amount in amounts])
    moved = added_up(movement)
    strains = strains_by(structure, tuple([moved.get(place, ZERO) for place in range(len(structure.free))]))
    for at, strain in enumerate(strains):
        if structure.there[at] and longer.get(at, ZERO) != strain:
            return False
    return True


def signed_entry(side, amount):
    """Return the component of a side and the amount with the side's sign."""
    return (side.component, with_sign(side.sign, amount))
