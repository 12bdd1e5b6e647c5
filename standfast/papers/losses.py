"""What is left of a structure after the loss of some members."""

from standfast.ratios import ONE, greater_one, minus, negative, times
from standfast.structure.grid import idle_places
from standfast.structure.model import Load, Structure, times_load
from standfast.structure.rows import make_row


def left(structure, lost, blow):
    """Return the Structure that is left, with a blow for each lost component."""
    bare = without(structure, lost, [])
    strike = greater_one(ONE, minus(blow, ONE))
    idle = idle_places(bare)
    return without(structure, lost, [blow_loads(bare, component, strike, idle) for component in sorted(lost)])


def left_bare(structure, lost):
    """Return what is left without blows: their groups have loads without forces."""
    return without(structure, lost, [[Load((), ()), Load((), ())] for _ in lost])


def without(structure, lost, groups):
    """Return the structure without the components of the lost members, with more groups of loads."""
    found = Structure((), (), (), (), structure.base, (), (), (), ())
    # Most of it is what it was, and needs no copies.
    found.free = structure.free
    found.rows = structure.rows
    found.factors = structure.factors
    found.sides = tuple([side for side in structure.sides if side.component not in lost])
    found.groups = structure.groups + tuple([tuple(loads) for loads in groups])
    found.scale = structure.scale
    found.errors = structure.errors
    found.there = tuple([is_there and at not in lost for at, is_there in enumerate(structure.there)])
    return found


def blow_loads(bare, component, strike, idle):
    """Return both loads of the blow of a lost component, by what is left without it and its idle movements."""
    amount = times(strike, bare.scale[component])
    forces = {place: times(number, amount) for place, number in bare.rows[component] if place not in idle}
    first = Load(make_row(forces), ())
    return [first, times_load(first, negative(ONE))]


def loss_sets(losable, lose):
    """Return the list of sets of members that may be lost together, tuples in ascending order."""
    found = [()]
    # From the last member to the first one: sets without a member come before those with it.
    for member in reversed(losable):
        found = found + [(member, *others) for others in found if len(others) < lose]
    return found
