"""Copies of what callers hand in."""


def as_tuples(value):
    """Return lists and tuples, also within one another, as tuples; and all else as it is."""
    if isinstance(value, tuple):
        # A tuple of two integers, as most ratios are, needs no copy.
        if len(value) == 2 and isinstance(value[0], int) and isinstance(value[1], int):
            return value
        return tuple([as_tuples(item) for item in value])
    if isinstance(value, list):
        return tuple([as_tuples(item) for item in value])
    return value
