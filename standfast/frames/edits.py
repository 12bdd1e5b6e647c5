"""Edits of frames, as texts."""

from standfast.errors import InvalidEdit
from standfast.frames.draft import Draft, check_case, message_of, take_text
from standfast.frames.lines import read_line
from standfast.frames.words import Unexpected

KINDS = ("section", "joint", "member", "gravity", "dead", "group", "case", "lose", "ask", "without")
EXPECTED = "section, joint, member, gravity, dead, group, case, lose, ask or without"
REMOVED = {
    "section": "name of a section",
    "joint": "name of a joint",
    "member": "name of a member",
    "group": "name of a group",
    "ask": "name of what is asked",
}


def edit_frame(frame, text):
    """Return the Frame after an edit."""
    draft = Draft(frame)
    fault = take_text(draft, text, take_change)
    if fault is not None:
        raise InvalidEdit(message_of(fault))
    return draft.finished()


def edit_fault(frame, text):
    """Return the place of the first fault of an edit, or None."""
    return take_text(Draft(frame), text, take_change)


def take_change(draft, words):
    """Take in one line of an edit."""
    column = words.next_column()
    kind = words.take_one_of(KINDS, EXPECTED)
    if kind == "without":
        take_removal(draft, words, column)
        return
    check_case(draft, kind, column)
    draft.take_in_place(kind, read_line(kind, words))


def take_removal(draft, words, column):
    """Take in the line of a removal, whose first word is at a column."""
    kind = words.take_one_of(list(REMOVED), "section, joint, member, group or ask")
    name = words.take_name()
    words.finish("end of line")
    if not draft.take_out(kind, name):
        raise Unexpected(column, REMOVED[kind])
