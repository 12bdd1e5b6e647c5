"""Copies of what callers hand in."""


def as_tuples(value):
    """Return lists and tuples, also within one another, as tuples; and all else as it is."""
    if isinstance(value, (list, tuple)):
        return tuple([as_tuples(item) for item in value])
    return value
