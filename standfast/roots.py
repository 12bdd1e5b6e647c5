"""Square roots, rounded to multiples of 1 / 1000000."""

from math import isqrt

from standfast.ratios import ZERO, ratio


def root_below(a):
    """Return the root from below, 0 for a less than 0."""
    n, d = a
    if n < 0:
        return ZERO
    return ratio(isqrt(n * 10 ** 12 // d), 10 ** 6)


def root_above(a):
    """Return the root from above, 0 for a less than 0."""
    n, d = a
    if n <= 0:
        return ZERO
    # The least integer whose square is at least x is 1 above the root of what is just below x.
    rounded_up = -(-n * 10 ** 12 // d)
    return ratio(isqrt(rounded_up - 1) + 1, 10 ** 6)
