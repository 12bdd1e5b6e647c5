"""What parts of a frame are if its text leaves them out."""

from standfast.frames.model import Case, Frame
from standfast.ratios import ONE

NOTHING = ((0, 1), (0, 1))
UNCHANGED = ((1, 1), (1, 1))


def empty_frame():
    """Return the frame of the empty text."""
    return Frame((), (), (), NOTHING, Case((), ()), (), 0, ONE, ())
