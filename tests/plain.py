"""Frames and loads as plain tuples, to compare them."""


def plain(thing):
    """All attributes of objects, in tuples; lists differ from tuples."""
    if isinstance(thing, (tuple, list)):
        return type(thing)(plain(item) for item in thing)
    if hasattr(thing, "__dict__"):
        return (type(thing).__name__, *((name, plain(value)) for name, value in sorted(vars(thing).items())))
    return thing
