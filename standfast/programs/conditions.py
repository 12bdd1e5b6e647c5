"""Conditions on unknowns: triples (numbers, bound, just)."""

from standfast.linear.equations import dot
from standfast.ratios import at_most, negative


def most(numbers, bound):
    """Return the condition that the sum is at most the bound."""
    return (tuple(numbers), bound, False)


def least(numbers, bound):
    """Return the condition that the sum is at least the bound."""
    return (tuple([negative(number) for number in numbers]), negative(bound), False)


def just(numbers, bound):
    """Return the condition that the sum is the bound."""
    return (tuple(numbers), bound, True)


def meets(values, conditions):
    """Return True if the values meet all conditions."""
    return all([is_true(values, condition) for condition in conditions])


def is_true(values, condition):
    """Return True if the values meet one condition."""
    numbers, bound, exactly = condition
    added = dot(numbers, values)
    return added == bound if exactly else at_most(added, bound)
