"""Structures: what is calculated with, and their loads."""

from standfast.copies import as_tuples
from standfast.structure.rows import add_rows, times_row


class Load:
    """Forces at free movements, and strains of components that come from outside."""

    def __init__(self, force, strain):
        self.force = as_tuples(force)
        self.strain = as_tuples(strain)


class Side:
    """What a component's force, multiplied by a sign, is at most: for sure, and at any rate."""

    def __init__(self, component, sign, sure, most, breaks):
        self.component = component
        self.sign = sign
        self.sure = as_tuples(sure)
        self.most = as_tuples(most)
        self.breaks = breaks


class Structure:
    """Free movements, components with their sides, and loads."""

    def __init__(self, free, rows, factors, sides, base, groups, scale, errors, there):
        self.free = as_tuples(free)
        self.rows = as_tuples(rows)
        self.factors = as_tuples(factors)
        self.sides = as_tuples(sides)
        self.base = base
        self.groups = as_tuples(groups)
        self.scale = as_tuples(scale)
        self.errors = as_tuples(errors)
        self.there = as_tuples(there)


def add_loads(loads):
    """Return the load that is the sum of a list of loads."""
    return Load(add_rows([load.force for load in loads]), add_rows([load.strain for load in loads]))


def times_load(load, amount):
    """Return a load multiplied by a ratio."""
    return Load(times_row(load.force, amount), times_row(load.strain, amount))
