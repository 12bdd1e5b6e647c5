"""Square roots, rounded to multiples of 1 / 1000000."""

from math import isqrt

from standfast.ratios import ZERO, ratio

MILLION = 1000000


def root_below(a):
    """Return the root from below, 0 for a less than 0."""
    n, d = a
    if n < 0:
        return ZERO
    return ratio(isqrt(n * 10 ** 12 // d), MILLION)


def root_above(a):
    """Return the root from above, 0 for a less than 0."""
    n, d = a
    return ratio(millionths_above(n, d), MILLION)


def millionths_above(n, d):
    """Return how many millionths the root from above of n / d is; d is above 0."""
    if n <= 0:
        return 0
    # The least integer whose square is at least x is 1 above the root of what is just below x.
    rounded_up = -(-n * 10 ** 12 // d)
    return isqrt(rounded_up - 1) + 1
