"""Ratios as integers in the same proportions."""

from math import gcd, lcm

from standfast.ratios import ratio


def in_whole_numbers(items):
    """Return integers without a common divisor, and the ratio by which they are greater than the items."""
    common = 1
    for item in items:
        common = lcm(common, item[1])
    integers = [n * (common // d) for n, d in items]
    shared = 0
    for integer in integers:
        shared = gcd(shared, integer)
    shared = max(shared, 1)
    return [integer // shared for integer in integers], ratio(common, shared)
