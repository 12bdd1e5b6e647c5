"""Exact numbers: pairs (n, d) of integers in lowest terms, with d at least 1."""

from math import gcd

ZERO = (0, 1)
ONE = (1, 1)
HALF = (1, 2)
TWO = (2, 1)


def ratio(n, d=1):
    """Return the ratio of two integers; d is not 0."""
    if d < 0:
        n, d = -n, -d
    shared = gcd(n, d)
    return (n // shared, d // shared)


def plus(a, b):
    """Return the sum."""
    return ratio(a[0] * b[1] + b[0] * a[1], a[1] * b[1])


def minus(a, b):
    """Return the difference."""
    return ratio(a[0] * b[1] - b[0] * a[1], a[1] * b[1])


def times(a, b):
    """Return the product."""
    return ratio(a[0] * b[0], a[1] * b[1])


def over(a, b):
    """Return the quotient; b is not 0."""
    return ratio(a[0] * b[1], a[1] * b[0])


def negative(a):
    """Return -a."""
    return (-a[0], a[1])


def size(a):
    """Return a without its sign."""
    return (abs(a[0]), a[1])


def sign(a):
    """Return -1, 0 or 1."""
    if a[0] < 0:
        return -1
    return 1 if a[0] > 0 else 0


def less(a, b):
    """Return True if a is less than b."""
    return a[0] * b[1] < b[0] * a[1]


def at_most(a, b):
    """Return True if a is at most b."""
    return a[0] * b[1] <= b[0] * a[1]


def greater_one(a, b):
    """Return the greater one of two ratios."""
    return b if less(a, b) else a


def lesser_one(a, b):
    """Return the lesser one of two ratios."""
    return b if less(b, a) else a


def total(items):
    """Return the sum of a list of ratios."""
    added = ZERO
    for item in items:
        added = plus(added, item)
    return added


def greatest_of(items):
    """Return the greatest one of a list of ratios; 0 for an empty list."""
    if not items:
        return ZERO
    found = items[0]
    for item in items:
        found = greater_one(found, item)
    return found


def with_sign(way, a):
    """Return a multiplied by 1 or -1."""
    return a if way > 0 else negative(a)
