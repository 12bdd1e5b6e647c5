"""Lists of members and of sections to choose from, choices, boxes of choices, and weights."""

from standfast.frames.defaults import NOTHING
from standfast.frames.model import Frame, Member, find
from standfast.frames.parts import Part
from standfast.frames.problems import problems
from standfast.lightest.stock import Stock, lists_of_members
from standfast.ratios import times, total


def fit(frame, lists):
    """Return True if the lists fit the frame."""
    if problems(frame) or frame.gravity != NOTHING:
        return False
    for _, names in lists:
        if len(names) == 0 or any([find(frame.sections, name) is None for name in names]):
            return False
    return problems(with_choice(frame, lists, [0 for _ in lists])) == []


def with_choice(frame, lists, choice):
    """Return the Frame with a choice: the index of a section for each list."""
    members = []
    for member, at in zip(frame.members, lists_of_members(frame, lists)):
        if at is not None:
            _, names = lists[at]
            member = Member(member.name, member.first, member.second, names[choice[at]], member.error, member.losable)
        members.append(member)
    return Frame(frame.sections, frame.joints, members, frame.gravity, frame.dead, frame.groups, frame.lose,
                 frame.blow, frame.asked)


def weight_of(frame):
    """Return the weight of a frame."""
    parts = [Part(frame, member) for member in frame.members]
    return total([times(part.section.weight, part.high) for part in parts])


def whole_box(lists):
    """Return the box of all choices."""
    return [tuple(range(len(names))) for _, names in lists]


def least_weight(frame, lists, box):
    """Return what a box weighs at least."""
    return Stock(frame, lists).least_weight(box)
