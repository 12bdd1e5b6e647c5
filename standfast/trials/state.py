"""What is true of one structure."""

from standfast.copies import as_tuples
from standfast.ratios import HALF, at_most, plus, times


class Truth:
    """A factor for each component, a strength for each side, and an error for each component."""

    def __init__(self, factors, strengths, errors):
        self.factors = as_tuples(factors)
        self.strengths = as_tuples(strengths)
        self.errors = as_tuples(errors)


def fits(structure, truth):
    """Return True if there are as many ratios as components and sides, each one between its bounds."""
    strengths = [(side.sure, side.most) for side in structure.sides]
    return (are_between(truth.factors, structure.factors)
            and are_between(truth.strengths, strengths)
            and are_between(truth.errors, structure.errors))


def are_between(values, bounds):
    """Return True if there are as many values as bounds, each one between its bounds."""
    if len(values) != len(bounds):
        return False
    return all([at_most(lower, value) and at_most(value, upper) for value, (lower, upper) in zip(values, bounds)])


def middle_truth(structure):
    """Return the Truth with middle factors and errors, and with what each side bears for sure."""
    return Truth([middle(bounds) for bounds in structure.factors], [side.sure for side in structure.sides],
                 [middle(bounds) for bounds in structure.errors])


def middle(bounds):
    """Return half the sum of two bounds."""
    lower, upper = bounds
    return times(plus(lower, upper), HALF)
