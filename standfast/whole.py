"""Ratios as integers in the same proportions."""

from math import gcd, lcm

from standfast.ratios import ratio


def in_whole_numbers(items):
    """Return integers without a common divisor, and the ratio by which they are greater than the items."""
    integers, common = over_common(items)
    shared = max(common_divisor(integers), 1)
    if shared == 1:
        return integers, (common, 1)
    return [integer // shared for integer in integers], ratio(common, shared)


def over_common(items):
    """Return integers, and the integer by which they are greater than the items."""
    common = 1
    for _, d in items:
        if d != 1:
            common = lcm(common, d)
    return [n * (common // d) for n, d in items], common


def reduced(integers, by):
    """Return integers and their divisor without what divides all of them."""
    shared = by
    for integer in integers:
        shared = gcd(shared, integer)
        if shared == 1:
            return integers, by
    return [integer // shared for integer in integers], by // shared


def common_divisor(integers):
    """Return the greatest common divisor, 0 if all integers are 0."""
    shared = 0
    for integer in integers:
        shared = gcd(shared, integer)
        if shared == 1:
            return 1
    return shared
