"""Texts of frames."""

from standfast.errors import InvalidFrame
from standfast.frames.defaults import empty_frame
from standfast.frames.draft import Draft, check_case, message_of, take_text
from standfast.frames.lines import read_line
from standfast.frames.words import Unexpected

KINDS = ("section", "joint", "member", "gravity", "dead", "group", "case", "lose", "ask")
EXPECTED = "section, joint, member, gravity, dead, group, case, lose or ask"


def read_frame(text):
    """Return the Frame that a text describes."""
    draft = Draft(empty_frame())
    fault = take_text(draft, text, take_line)
    if fault is not None:
        raise InvalidFrame(message_of(fault))
    return draft.finished()


def fault_of(text):
    """Return the place of the first fault of a text, or None."""
    return take_text(Draft(empty_frame()), text, take_line)


def take_line(draft, words):
    """Take in one line of a text."""
    column = words.next_column()
    kind = words.take_one_of(KINDS, EXPECTED)
    check_case(draft, kind, column)
    thing = read_line(kind, words)
    if kind in draft.given:
        raise Unexpected(column, "no second " + kind)
    draft.take_in(kind, thing)
